import Derived.Test.YtkgfjkfccpjcgaaDoorKeepM
import Derived.Test.YtkgfjkfccpjcgaaDoorLoopM
import Derived.KernelRfl
namespace Go.Abs.Sh
set_option linter.unusedVariables false
set_option linter.unusedSimpArgs false
/-! How far two places of a text are alike. -/
def pre:List Int→List Int→Nat
 | x::xs,y::ys=>if x=y then pre xs ys+1 else 0
 | _,_=>0
theorem pre_le:∀ a c:List Int,pre a c≤a.length∧pre a c≤c.length
 | [],_=>by simp [pre]
 | _::_,[]=>by simp [pre]
 | x::xs,y::ys=>by
  have:=pre_le xs ys
  unfold pre
  split <;> simp <;> omega
theorem pre_get:∀ (a c:List Int) (k:Nat),k<pre a c→a[k]? = c[k]?
 | [],_,k,h=>by simp [pre] at h
 | _::_,[],k,h=>by simp [pre] at h
 | x::xs,y::ys,k,h=>by
  unfold pre at h
  split at h
  ·rename_i e
   subst e
   cases k with
   | zero=>rfl
   | succ k=>simpa using pre_get xs ys k (by omega)
  ·omega
theorem pre_ge:∀ (a c:List Int) (k:Nat),k≤a.length→k≤c.length→(∀ j,j<k→a[j]? = c[j]?)→k≤pre a c
 | [],_,k,h,_,_=>by simp at h; omega
 | _::_,[],k,_,h,_=>by simp at h; omega
 | x::xs,y::ys,k,h1,h2,h=>by
  cases k with
  | zero=>omega
  | succ k =>
   have h0:=h 0 (by omega)
   simp only [List.getElem?_cons_zero,Option.some.injEq] at h0
   have:=pre_ge xs ys k (by simpa using h1) (by simpa using h2) fun j hj=>by simpa using h (j+1) (by omega)
   unfold pre
   rw [if_pos h0]
   omega
theorem pre_stop:∀ (a c:List Int),pre a c<a.length→pre a c<c.length→a[pre a c]? ≠ c[pre a c]?
 | [],_,h,_=>by simp at h
 | _::_,[],_,h=>by simp at h
 | x::xs,y::ys,h1,h2=>by
  unfold pre at h1 h2 ⊢
  split
  ·rename_i e
   rw [if_pos e] at h1 h2
   simpa using pre_stop xs ys (by simpa using h1) (by simpa using h2)
  ·rename_i e
   simpa using e
def cmL (b:List Int) (p at_:Nat):Nat:=min 258 (pre (b.drop p) (b.drop at_))
theorem cm_le (b:List Int) {p at_:Nat}:cmL b p at_≤258∧cmL b p at_≤b.length-at_:=by
 have:=(pre_le (b.drop p) (b.drop at_)).2
 rw [List.length_drop] at this
 unfold cmL
 omega
theorem cm_get {b:List Int} {p at_ k:Nat} (h:k<cmL b p at_):b[p+k]? = b[at_+k]? := by
 have:=pre_get (b.drop p) (b.drop at_) k (by unfold cmL at h; omega)
 simpa using this
theorem cm_ge {b:List Int} {p at_ k:Nat} (h:k≤258) (hp:p≤at_) (hk:at_+k≤b.length) (hj:∀ j,j<k→b[p+j]? = b[at_+j]?):k≤cmL b p at_:=by
 have:=pre_ge (b.drop p) (b.drop at_) k (by rw [List.length_drop]; omega) (by rw [List.length_drop]; omega) fun j hj2=>by simpa using hj j hj2
 unfold cmL
 omega
theorem cm_stop {b:List Int} {p at_:Nat} (hp:p≤at_) (h:cmL b p at_<258) (h2:at_+cmL b p at_<b.length):b[p+cmL b p at_]? ≠ b[at_+cmL b p at_]? := by
 have hl:=(pre_le (b.drop p) (b.drop at_)).1
 have e:cmL b p at_=pre (b.drop p) (b.drop at_):=by unfold cmL at h ⊢; omega
 rw [e] at h2 ⊢
 have:=pre_stop (b.drop p) (b.drop at_) (by rw [List.length_drop]; omega) (by rw [List.length_drop]; omega)
 simpa using this
def key (b:List Int) (p:Nat):List Int:=(b.drop p).take 3
theorem key_len (b:List Int) (p:Nat):(key b p).length=min 3 (b.length-p):=by unfold key; simp
theorem key_get (b:List Int) (p j:Nat) (h:j<3):(key b p)[j]? = b[p+j]? := by
 unfold key
 rw [List.getElem?_take,if_pos h,List.getElem?_drop]
theorem cm_key {b:List Int} {p at_:Nat} (hp:p≤at_) (h3:at_+3≤b.length):key b p=key b at_↔3≤cmL b p at_:=by
 constructor
 ·intro h
  refine cm_ge (by omega) hp h3 fun j hj => ?_
  rw [← key_get b p j hj,← key_get b at_ j hj,h]
 ·intro h
  apply List.ext_getElem?
  intro j
  by_cases hj:j<3
  ·rw [key_get b p j hj,key_get b at_ j hj]
   exact cm_get (by omega)
  ·rw [List.getElem?_eq_none (by rw [key_len]; omega),List.getElem?_eq_none (by rw [key_len]; omega)]
/-! The best piece. -/
def upd1 (s:Nat×Nat) (o m:Nat):Nat×Nat:=if s.1<m then (m,o) else s
def bestN (b:List Int) (at_:Nat):Nat→Nat×Nat
 | 0=>(0,0)
 | k+1=>upd1 (bestN b at_ k) (k+1) (cmL b (at_-(k+1)) at_)
def clp (s:Nat×Nat):Nat×Nat:=if s.1<3 then (0,0) else s
def bestS (b:List Int) (at_:Nat):Nat×Nat:=clp (bestN b at_ (min at_ 2048))
theorem bestN_le (b:List Int) (at_:Nat):∀ k,(bestN b at_ k).1≤258∧(bestN b at_ k).1≤b.length-at_∧(bestN b at_ k).2≤k
 | 0=>by simp [bestN]
 | k+1=>by
  have h:=bestN_le b at_ k
  have h2:=cm_le b (p:=at_-(k+1)) (at_:=at_)
  unfold bestN upd1
  split
  ·exact ⟨h2.1,h2.2,Nat.le_refl _⟩
  ·exact ⟨h.1,h.2.1,by omega⟩
theorem bestN_ge (b:List Int) (at_:Nat):∀ k o,1≤o→o≤k→cmL b (at_-o) at_≤(bestN b at_ k).1
 | 0,o,h1,h2=>by omega
 | k+1,o,h1,h2=>by
  unfold bestN upd1
  by_cases e:o=k+1
  ·subst e
   split
   ·exact Nat.le_refl _
   ·omega
  ·have:=bestN_ge b at_ k o h1 (by omega)
   split
   ·show _≤cmL b (at_-(k+1)) at_
    omega
   ·exact this
theorem bestN_is (b:List Int) (at_:Nat):∀ k,(bestN b at_ k=(0,0))∨(1≤(bestN b at_ k).2∧(bestN b at_ k).1=cmL b (at_-(bestN b at_ k).2) at_∧∀ o,1≤o→o<(bestN b at_ k).2→cmL b (at_-o) at_<(bestN b at_ k).1)
 | 0 => .inl rfl
 | k+1=>by
  have h:=bestN_is b at_ k
  have hg:=bestN_ge b at_ k
  unfold bestN upd1
  split
  ·rename_i hlt
   refine .inr ⟨by simp,rfl,fun o h1 h2 => ?_⟩
   have:=hg o h1 (by simp at h2; omega)
   simp only
   omega
  ·exact h
theorem clp_low {s:Nat×Nat} {o m:Nat} (h:m<3):clp (upd1 s o m)=clp s:=by
 unfold clp upd1
 by_cases h1:s.1<m
 ·rw [if_pos h1,if_pos h,if_pos (by omega)]
 ·rw [if_neg h1]
theorem clp_high {s:Nat×Nat} {o m:Nat} (h:3≤m):clp (upd1 s o m)=if (clp s).1<m then (m,o) else clp s:=by
 unfold clp upd1
 by_cases h1:s.1<m
 ·rw [if_pos h1,if_neg (by omega)]
  by_cases h3:s.1<3
  ·rw [if_pos h3,if_pos (by show 0<m; omega)]
  ·rw [if_neg h3,if_pos h1]
 ·rw [if_neg h1,if_neg (by omega),if_neg (by omega)]
theorem best_skip {b:List Int} {at_:Nat}:∀ (d k:Nat),(∀ o,k<o→o≤k+d→cmL b (at_-o) at_<3)→clp (bestN b at_ (k+d))=clp (bestN b at_ k)
 | 0,k,_=>rfl
 | d+1,k,h=>by
  show clp (upd1 (bestN b at_ (k+d)) (k+d+1) (cmL b (at_-(k+d+1)) at_))=_
  rw [clp_low (h (k+d+1) (by omega) (by omega))]
  exact best_skip d k fun o h1 h2=>h o h1 (by omega)
theorem best_full {b:List Int} {at_:Nat}:∀ (d k:Nat),(bestN b at_ k).1=258→bestN b at_ (k+d)=bestN b at_ k
 | 0,k,_=>rfl
 | d+1,k,h=>by
  have e:=best_full d k h
  show upd1 (bestN b at_ (k+d)) (k+d+1) (cmL b (at_-(k+d+1)) at_)=_
  unfold upd1
  have:=(cm_le b (p:=at_-(k+d+1)) (at_:=at_)).1
  rw [e,if_neg (by omega)]
end Go.Abs.Sh

namespace Go.Abs.Sh
set_option linter.unusedVariables false
set_option linter.unusedSimpArgs false
set_option maxRecDepth 10000
def cmS (x:T_match_index) (p at_ v2:Int):((Int))→Option ((Int)⊕((Int)⊕(Int×T_match_index))):=(fun (s21:Int) =>
 bindS (S:=Bool) (A:=((Int)⊕((Int)⊕(Int×T_match_index))))
  (cond ((decide (s21<v2)))
   ((some (IntKind.i64.wrap (p+s21))).bind fun v3 =>
   (ixO v3 x.b.length).bind fun v4 =>
   (getO x.b v4).bind fun v5 =>
   (some (IntKind.i64.wrap (at_+s21))).bind fun v6 =>
   (ixO v6 x.b.length).bind fun v7 =>
   (getO x.b v7).bind fun v8 =>
   some (.inl (v5==v8)))
   (some (.inl false)))
  (fun (s34:Bool) =>
   cond (s34)
    ((some (IntKind.i64.wrap (s21+1))).bind fun v14 =>
    some (.inl v14))
    (some (.inr (.inl s21)))) some)
/-! What is known of the places gone by. -/
def prv (b:List Int) (f:Nat) (k:List Int):Nat→Nat
 | 0=>0
 | p+1=>if f≤p∧key b p=k then p+1 else prv b f k p
theorem prv_le (b:List Int) (f:Nat) (k:List Int):∀ p,prv b f k p≤p
 | 0=>Nat.le_refl _
 | p+1=>by
  have:=prv_le b f k p
  unfold prv
  split <;> omega
theorem prv_is (b:List Int) (f:Nat) (k:List Int):∀ p q,prv b f k p=q+1→f≤q∧q<p∧key b q=k
 | 0,q,h=>by simp [prv] at h
 | p+1,q,h=>by
  unfold prv at h
  split at h
  ·rename_i hc
   obtain rfl:p=q:=by omega
   exact ⟨hc.1,by omega,hc.2⟩
  ·obtain ⟨h1,h2,h3⟩:=prv_is b f k p q h
   exact ⟨h1,by omega,h3⟩
theorem prv_no (b:List Int) (f:Nat) (k:List Int):∀ p q,prv b f k p≤q→q<p→f≤q→key b q≠k
 | 0,q,_,h,_=>by omega
 | p+1,q,h1,h2,h3=>by
  unfold prv at h1
  split at h1
  ·omega
  ·rename_i hc
   by_cases e:q=p
   ·subst e
    exact fun hk=>hc ⟨h3,hk⟩
   ·exact prv_no b f k p q h1 (by omega) h3
theorem prv_skip {b:List Int} {f p:Nat} {k:List Int} (h:key b p≠k):prv b f k (p+1)=prv b f k p:=by
 conv=>lhs; unfold prv
 rw [if_neg fun hc=>h hc.2]
theorem prv_hit {b:List Int} {f p:Nat} (h:f≤p):prv b f (key b p) (p+1)=p+1:=by
 unfold prv
 rw [if_pos ⟨h,rfl⟩]
structure Ixd (b:List Int) (f cur:Nat) (x:T_match_index):Prop where
 hb:x.b=b
 hf:x.from_=(f:Int)
 la:∀ k:List Int,k.length=3→(x.last.lookup k).getD 0=((prv b f k cur:Nat):Int)
 bk:∀ p,f≤p→p<cur→p+3≤b.length→x.back[p-f]? = some ((prv b f (key b p) p:Nat):Int)
 bl:x.back.length=min cur (b.length-2)-f
 ll:x.last.length≤cur
theorem ln_of {A:Type} {n:Nat} {l:List A} (h:l.length=n):lnO n l=some l:=by unfold lnO; rw [if_pos h]
theorem prv_f (b:List Int) (f:Nat) (k:List Int):prv b f k f=0:=by
 cases h:prv b f k f with
 | zero=>rfl
 | succ q=>have:=prv_is b f k f q h; omega
theorem ix_new (b:List Int) (f:Nat):Ixd b f f (T_match_index.mk b [] [] (f:Int)) :=
 ⟨rfl,rfl,fun k _=>by rw [prv_f]; rfl,fun p h1 h2=>by omega,by simp; omega,Nat.zero_le _⟩
theorem key_byB {b:List Int} (hb:∀ n∈b,0≤n∧n<256) (p:Nat):byB (key b p)=true:=by
 unfold byB
 rw [List.all_eq_true]
 intro x hx
 have:=hb x (List.mem_of_mem_drop (List.mem_of_mem_take hx))
 simpa using this
theorem start_eq {b:List Int} {f cur at_:Nat} {x:T_match_index} (h:Ixd b f cur x) (hl:b.length≤5000) (ha:at_≤b.length) :
  match_index_startAt x (at_:Int)=some (if b.length<at_+3 then ([0,0,0],false,x) else (key b at_,true,x)):=by
 unfold match_index_startAt
 have hw:IntKind.i64.wrap ((at_:Int)+3)=((at_+3:Nat):Int):=by rw [wrap_i64 (by omega) (by omega)]; simp
 rw [h.hb]
 refine bnd (congrArg some hw) ?_
 by_cases hc:b.length<at_+3
 ·rw [if_pos hc]
  exact cnd_t (decide_eq_true (by omega)) (bnd (ln_of rfl) (bnd (ln_of rfl) (bnd (ln_of rfl) rfl)))
 ·rw [if_neg hc]
  have hk3:(key b at_).length=3:=by rw [key_len]; omega
  have hs:=sli_nat b (a:=at_) (b:=at_+3) (by omega) (by omega)
  have e:(b.drop at_).take (at_+3-at_)=key b at_:=by unfold key; rw [Nat.add_sub_cancel_left]
  rw [e] at hs
  have har:arrO 3 (key b at_)=some (key b at_):=by
   unfold arrO
   rw [if_pos (by omega),List.take_of_length_le (by omega)]
  exact cnd_f (decide_eq_false (by omega)) (bnd (congrArg some hw) (bnd hs (bnd har (bnd (ln_of rfl) (bnd (ln_of hk3) (bnd (ln_of hk3) rfl))))))
theorem getO_q {A:Type} {l:List A} {i:Nat} (h:i<l.length):∃ v,getO l i=some v∧l[i]? = some v:=⟨l[i],getO_of h,List.getElem?_eq_getElem h⟩
theorem common_eq {b:List Int} {p at_:Nat} {x:T_match_index} (hxb:x.b=b) (hl:b.length≤5000) (hp:p<at_) (h3:at_+3≤b.length) (hk:key b p=key b at_) :
  match_index_common x (p:Int) (at_:Int)=some (((cmL b p at_:Nat):Int),x):=by
 have hm:=(cm_key (by omega) h3).1 hk
 have hle:=cm_le b (p:=p) (at_:=at_)
 unfold match_index_common
 rw [hxb]
 have hw:IntKind.i64.wrap ((b.length:Int)-(at_:Int))=((b.length-at_:Nat):Int):=by rw [wrap_i64 (by omega) (by omega)]; omega
 have hv2:(if ((b.length-at_:Nat):Int)<258 then ((b.length-at_:Nat):Int) else 258)=((min 258 (b.length-at_):Nat):Int):=by
  by_cases h:b.length-at_<258
  ·rw [if_pos (by omega)]; omega
  ·rw [if_neg (by omega)]; omega
 refine bnd (congrArg some hw) (bnd (congrArg some hv2) (bndL (s:=((cmL b p at_:Nat):Int)) ?_ rfl))
 have hgo:∀ i:Nat,i<min 258 (b.length-at_)→∃ u v:Int,b[p+i]? = some u∧b[at_+i]? = some v∧((cond ((decide ((i:Int)<((min 258 (b.length-at_):Nat):Int))))
     ((some (IntKind.i64.wrap ((p:Int)+(i:Int)))).bind fun v3 =>
     (ixO v3 b.length).bind fun v4 =>
     (getO b v4).bind fun v5 =>
     (some (IntKind.i64.wrap ((at_:Int)+(i:Int)))).bind fun v6 =>
     (ixO v6 b.length).bind fun v7 =>
     (getO b v7).bind fun v8 =>
     some (.inl (v5==v8)))
     (some (.inl false)):Option (Bool⊕(Int⊕(Int⊕(Int×T_match_index)))))=some (.inl (u==v))):=by
  intro i hi
  obtain ⟨u,hu,hu2⟩:=getO_q (l:=b) (i:=p+i) (by omega)
  obtain ⟨v,hv,hv2⟩:=getO_q (l:=b) (i:=at_+i) (by omega)
  refine ⟨u,v,hu2,hv2,cnd_t (decide_eq_true (by omega)) (bnd (x:=((p+i:Nat):Int)) (by rw [wrap_i64 (by omega) (by omega)]; simp) (bnd (ixO_of (by omega)) (bnd hu (bnd (x:=((at_+i:Nat):Int)) (by rw [wrap_i64 (by omega) (by omega)]; simp) (bnd (ixO_of (by omega)) (bnd hv rfl))))))⟩
 rw [show (3:Int)=((3:Nat):Int) from rfl]
 have hlp:=loop_from (f:=cmS { x with b:=b } (p:Int) (at_:Int) ((min 258 (b.length-at_):Nat):Int)) (s:=((3:Nat):Int)) (o := .inl ((cmL b p at_:Nat):Int)) (fun i=>((3+i:Nat):Int)) (cmL b p at_-3) BIG rfl (by simp only [BIG]; omega) (fun i hi=>by
   obtain ⟨u,v,hu,hv,he⟩:=hgo (3+i) (by omega)
   have:=cm_get (b:=b) (p:=p) (at_:=at_) (k:=3+i) (by omega)
   rw [hu,hv] at this
   obtain rfl:=Option.some.inj this
   rw [beq_self_eq_true] at he
   exact bndL he (cnd_t rfl (bnd (congrArg some (wrap_succ (n:=3+i) (by omega))) rfl)))
  (by
   have e3:3+(cmL b p at_-3)=cmL b p at_:=by omega
   rw [e3]
   by_cases hend:cmL b p at_<min 258 (b.length-at_)
   ·obtain ⟨u,v,hu,hv,he⟩:=hgo (cmL b p at_) hend
    have:=cm_stop (b:=b) (p:=p) (at_:=at_) (by omega) (by omega) (by omega)
    rw [hu,hv] at this
    have hne:(u==v)=false:=beq_eq_false_iff_ne.2 fun h=>this (by rw [h])
    rw [hne] at he
    exact bndL he (cnd_f rfl rfl)
   ·exact bndL (s:=false) (cnd_f (decide_eq_false (by omega)) rfl) (cnd_f rfl rfl))
 exact hlp
theorem add_eq {b:List Int} {f cur:Nat} {x:T_match_index} (h:Ixd b f cur x) (hb:∀ n∈b,0≤n∧n<256) (hl:b.length≤5000) (hc:cur<b.length) (hfc:f≤cur):∃ y,match_index_add x (cur:Int)=some y∧Ixd b f (cur+1) y:=by
 have hs:=start_eq h hl (Nat.le_of_lt hc)
 unfold match_index_add
 by_cases h3:b.length<cur+3
 ·rw [if_pos h3] at hs
  refine ⟨x,bnd hs (bnd (ln_of rfl) (bnd (ln_of rfl) (cnd_t rfl rfl))),h.hb,h.hf,fun k hk => ?_,fun p h1 h2 h4 => ?_,?_,Nat.le_succ_of_le h.ll⟩
  ·rw [prv_skip (fun e=>by have:=congrArg List.length e; rw [key_len] at this; omega)]
   exact h.la k hk
  ·exact h.bk p h1 (by omega) h4
  ·rw [h.bl]; omega
 ·rw [if_neg h3] at hs
  have hk3:(key b cur).length=3:=by rw [key_len]; omega
  have hla:=h.la _ hk3
  have hbl:x.back.length=cur-f:=by rw [h.bl]; omega
  have hg:mgetO 3 x.last (key b cur)=some ((prv b f (key b cur) cur:Nat):Int):=by
   unfold mgetO
   rw [if_pos ⟨hk3,key_byB hb cur⟩,hla]
  have hap:appO 8 x.back [((prv b f (key b cur) cur:Nat):Int)]=some (x.back++[((prv b f (key b cur) cur:Nat):Int)]):=app_of (by simp only [List.length_cons,List.length_nil]; omega) (by simp only [List.length_cons,List.length_nil]; omega)
  have hll:=h.ll
  have hp:mputO 3 x.last (key b cur) ((cur+1:Nat):Int)=some ((key b cur,((cur+1:Nat):Int))::x.last):=by
   unfold mputO
   rw [if_pos ⟨⟨hk3,key_byB hb cur⟩,by omega,by omega,by omega⟩]
  refine ⟨T_match_index.mk x.b ((key b cur,((cur+1:Nat):Int))::x.last) (x.back++[((prv b f (key b cur) cur:Nat):Int)]) x.from_,bnd hs (bnd (ln_of rfl) (bnd (ln_of hk3) (cnd_f rfl (bnd (ln_of hk3) (bnd hg (bnd hap (bnd (ln_of hk3) (bnd (congrArg some (wrap_succ (n:=cur) (by omega))) (bnd hp rfl))))))))),h.hb,h.hf,fun k hk => ?_,fun p h1 h2 h4 => ?_,?_,?_⟩
  ·show (((key b cur,((cur+1:Nat):Int))::x.last).lookup k).getD 0=_
   rw [List.lookup_cons]
   by_cases e:k=key b cur
   ·subst e
    rw [beq_self_eq_true,prv_hit hfc]
    rfl
   ·have:(k==key b cur)=false:=beq_eq_false_iff_ne.2 e
    rw [this,prv_skip (fun h=>e h.symm)]
    exact h.la k hk
  ·show (x.back++[((prv b f (key b cur) cur:Nat):Int)])[p-f]? = _
   by_cases e:p=cur
   ·subst e
    rw [List.getElem?_append_right (by omega),hbl]
    simp
   ·rw [List.getElem?_append_left (by omega)]
    exact h.bk p h1 (by omega) h4
  ·show (x.back++[_]).length=_
   rw [List.length_append,hbl,List.length_cons,List.length_nil]; omega
  ·show x.last.length+1≤cur+1
   omega
end Go.Abs.Sh

namespace Go.Abs.Sh
set_option linter.unusedVariables false
set_option linter.unusedSimpArgs false
set_option maxRecDepth 10000
def beS (at_:Int):(((List Int)×(List ((List Int)×Int))×(List Int)×Int×Int×Int×Int))→Option (((List Int)×(List ((List Int)×Int))×(List Int)×Int×Int×Int×Int)⊕(((List Int)×(List ((List Int)×Int))×(List Int)×Int×Int×Int)⊕(((List Int)×(List ((List Int)×Int))×(List Int)×Int×Int×Int)⊕(Int×Int×T_match_index)))):=(fun ((s159,s160,s161,s162,s163,s164,s165):(List Int)×(List ((List Int)×Int))×(List Int)×Int×Int×Int×Int) =>
   bindS (S:=Bool) (A:=(((List Int)×(List ((List Int)×Int))×(List Int)×Int×Int×Int×Int)⊕(((List Int)×(List ((List Int)×Int))×(List Int)×Int×Int×Int)⊕(((List Int)×(List ((List Int)×Int))×(List Int)×Int×Int×Int)⊕(Int×Int×T_match_index)))))
    (cond ((decide (s162≤s165)))
     ((some (IntKind.i64.wrap (at_-s165))).bind fun v8 =>
     some (.inl ((decide (v8≤2048)))))
     (some (.inl false)))
    (fun (s195:Bool) =>
     cond (s195)
      (bindS (S:=Int×Int×(List Int)×(List ((List Int)×Int))×(List Int)×Int) (A:=(((List Int)×(List ((List Int)×Int))×(List Int)×Int×Int×Int×Int)⊕(((List Int)×(List ((List Int)×Int))×(List Int)×Int×Int×Int)⊕(((List Int)×(List ((List Int)×Int))×(List Int)×Int×Int×Int)⊕(Int×Int×T_match_index)))))
       ((match_index_common (T_match_index.mk s159 s160 s161 s162) s165 at_).bind fun v14 =>
       cond ((decide (s163<v14.1)))
        ((some (IntKind.i64.wrap (at_-s165))).bind fun v16 =>
        some (.inl (v14.1,v16,v14.2.b,v14.2.last,v14.2.back,v14.2.from_)))
        (some (.inl (s163,s164,v14.2.b,v14.2.last,v14.2.back,v14.2.from_))))
       (fun ((s201,s202,s203,s204,s205,s206):Int×Int×(List Int)×(List ((List Int)×Int))×(List Int)×Int) =>
        cond ((s201==258))
         (some (.inr (.inl (s203,s204,s205,s206,s201,s202))))
         ((some (IntKind.i64.wrap (s165-s206))).bind fun v28 =>
         (ixO v28 s205.length).bind fun v29 =>
         (getO s205 v29).bind fun v30 =>
         (some (IntKind.i64.wrap (v30-1))).bind fun v31 =>
         some (.inl (s203,s204,s205,s206,s201,s202,v31)))) some)
      (some (.inr (.inl (s159,s160,s161,s162,s163,s164))))) some)
theorem best_loop {b:List Int} {f at_:Nat} {x:T_match_index} (h:Ixd b f at_ x) (hl:b.length≤5000) (h3:at_+3≤b.length) (hf:f≤at_-min at_ 2048) :
  ∀ (q fuel:Nat),q≤at_→at_-q≤min at_ 2048→q<fuel→(clp (bestN b at_ (at_-q))).1<258 →
   loopF (beS (at_:Int)) fuel (b,x.last,x.back,(f:Int),(((clp (bestN b at_ (at_-q))).1:Nat):Int),(((clp (bestN b at_ (at_-q))).2:Nat):Int),((prv b f (key b at_) q:Nat):Int)-1) =
    some (.inl (b,x.last,x.back,(f:Int),(((bestS b at_).1:Nat):Int),(((bestS b at_).2:Nat):Int))):=by
 intro q
 induction q using Nat.strongRecOn with
 | _ q ih =>
 intro fuel hq hq2 hfu h258
 obtain ⟨fu,rfl⟩:∃ fu,fuel=fu+1:=⟨fuel-1,by omega⟩
 obtain ⟨s,hs⟩:∃ s,s=clp (bestN b at_ (at_-q)):=⟨_,rfl⟩
 have hnear:∀ o,at_-q<o→o≤min at_ 2048→prv b f (key b at_) q≤at_-o→cmL b (at_-o) at_<3:=by
  intro o h1 h2 h4
  have hno:=prv_no b f (key b at_) q (at_-o) h4 (by omega) (by omega)
  apply Classical.byContradiction
  intro hc
  exact hno ((cm_key (by omega) h3).2 (by omega))
 have hend:(∀ o,at_-q<o→o≤min at_ 2048→prv b f (key b at_) q≤at_-o)→s=bestS b at_:=by
  intro hall
  have:=best_skip (b:=b) (at_:=at_) (min at_ 2048-(at_-q)) (at_-q) fun o h1 h2=>hnear o h1 (by omega) (hall o h1 (by omega))
  rw [show at_-q+(min at_ 2048-(at_-q))=min at_ 2048 by omega] at this
  unfold bestS
  rw [this,hs]
 rw [← hs] at h258 ⊢
 cases hc:prv b f (key b at_) q with
 | zero =>
  have:=hend fun o h1 h2=>by rw [hc]; omega
  rw [this]
  exact loop_exit (bndL (s:=false) (cnd_f (decide_eq_false (by omega)) rfl) (cnd_f rfl rfl))
 | succ r =>
  obtain ⟨hr1,hr2,hr3⟩:=prv_is b f (key b at_) q r hc
  have hp:((r+1:Nat):Int)-1=(r:Int):=by omega
  rw [hp]
  have hw:IntKind.i64.wrap ((at_:Int)-(r:Int))=((at_-r:Nat):Int):=by rw [wrap_i64 (by omega) (by omega)]; omega
  have hd1:decide ((f:Int)≤(r:Int))=true:=decide_eq_true (by omega)
  by_cases h20:at_-r≤2048
  case neg =>
   have:=hend fun o h1 h2=>by rw [hc]; omega
   rw [this]
   exact loop_exit (bndL (s:=false) (cnd_t hd1 (bnd (congrArg some hw) (by rw [decide_eq_false (by omega)]))) (cnd_f rfl rfl))
  have hcm:=common_eq (x:=T_match_index.mk b x.last x.back (f:Int)) rfl hl (by omega:r<at_) h3 hr3
  have hm3:=(cm_key (by omega) h3).1 hr3
  have hm8:=(cm_le b (p:=r) (at_:=at_)).1
  have hsk:=best_skip (b:=b) (at_:=at_) (at_-r-1-(at_-q)) (at_-q) fun o h1 h2=>hnear o h1 (by omega) (by rw [hc]; omega)
  rw [show at_-q+(at_-r-1-(at_-q))=at_-r-1 by omega,← hs] at hsk
  have hup:clp (bestN b at_ (at_-r))=if s.1<cmL b r at_ then (cmL b r at_,at_-r) else s:=by
   have e:bestN b at_ (at_-r)=upd1 (bestN b at_ (at_-r-1)) (at_-r) (cmL b r at_):=by
    have e1:at_-r=(at_-r-1)+1:=by omega
    have e2:at_-(at_-r-1+1)=r:=by omega
    conv=>lhs; rw [e1]
    show upd1 (bestN b at_ (at_-r-1)) (at_-r-1+1) (cmL b (at_-(at_-r-1+1)) at_)=_
    rw [e2,← e1]
   rw [e,clp_high hm3,hsk]
  have hfirst:(cond ((decide ((f:Int)≤(r:Int)))) ((some (IntKind.i64.wrap ((at_:Int)-(r:Int)))).bind fun v8=>some (.inl ((decide (v8≤2048))))) (some (.inl false)):Option (Bool⊕(((List Int)×(List ((List Int)×Int))×(List Int)×Int×Int×Int×Int)⊕(((List Int)×(List ((List Int)×Int))×(List Int)×Int×Int×Int)⊕(((List Int)×(List ((List Int)×Int))×(List Int)×Int×Int×Int)⊕(Int×Int×T_match_index))))))=some (.inl true) :=
   cnd_t hd1 (bnd (congrArg some hw) (by rw [decide_eq_true (by omega)]))
  obtain ⟨u,hu⟩:∃ u,u=clp (bestN b at_ (at_-r)):=⟨_,rfl⟩
  have hsecond:((match_index_common (T_match_index.mk b x.last x.back (f:Int)) (r:Int) (at_:Int)).bind fun v14 =>
         cond ((decide (((s.1:Nat):Int)<v14.1)))
          ((some (IntKind.i64.wrap ((at_:Int)-(r:Int)))).bind fun v16 =>
          some (.inl (v14.1,v16,v14.2.b,v14.2.last,v14.2.back,v14.2.from_)))
          (some (.inl (((s.1:Nat):Int),((s.2:Nat):Int),v14.2.b,v14.2.last,v14.2.back,v14.2.from_))):Option ((Int×Int×(List Int)×(List ((List Int)×Int))×(List Int)×Int)⊕(((List Int)×(List ((List Int)×Int))×(List Int)×Int×Int×Int×Int)⊕(((List Int)×(List ((List Int)×Int))×(List Int)×Int×Int×Int)⊕(((List Int)×(List ((List Int)×Int))×(List Int)×Int×Int×Int)⊕(Int×Int×T_match_index))))))=some (.inl (((u.1:Nat):Int),((u.2:Nat):Int),b,x.last,x.back,(f:Int))):=by
   refine bnd hcm ?_
   by_cases hlt:s.1<cmL b r at_
   ·rw [if_pos hlt] at hup
    rw [hu,hup]
    exact cnd_t (decide_eq_true (by show ((s.1:Nat):Int)<((cmL b r at_:Nat):Int); omega)) (bnd (congrArg some hw) rfl)
   ·rw [if_neg hlt] at hup
    rw [hu,hup]
    exact cnd_f (decide_eq_false (by show ¬ ((s.1:Nat):Int)<((cmL b r at_:Nat):Int); omega)) rfl
  by_cases hfull:u.1=258
  ·have hb:(bestN b at_ (at_-r)).1=258:=by
    rw [hu] at hfull
    unfold clp at hfull
    split at hfull
    ·simp at hfull
    ·exact hfull
   have hbf:=best_full (min at_ 2048-(at_-r)) (at_-r) hb
   rw [show at_-r+(min at_ 2048-(at_-r))=min at_ 2048 by omega] at hbf
   have hS:u=bestS b at_:=by rw [hu]; unfold bestS; rw [hbf]
   rw [← hS]
   exact loop_exit (bndL hfirst (cnd_t rfl (bndL hsecond (cnd_t (beq_iff_eq.2 (by omega)) rfl))))
  ·have hlt258:u.1<258:=by
    have:u.1≤258:=by
     rw [hu]
     unfold clp
     split
     ·simp
     ·exact (bestN_le b at_ _).1
    omega
   have hbk:=h.bk r hr1 (by omega) (by omega)
   rw [hr3] at hbk
   have hbl:=h.bl
   have hpl:=prv_le b f (key b at_) r
   have hgo:getO x.back (r-f)=some ((prv b f (key b at_) r:Nat):Int):=hbk
   have hix:ixO ((r-f:Nat):Int) x.back.length=some (r-f):=ixO_of (by rw [hbl]; omega)
   have hw2:IntKind.i64.wrap ((r:Int)-(f:Int))=((r-f:Nat):Int):=by rw [wrap_i64 (by omega) (by omega)]; omega
   have hw3:IntKind.i64.wrap (((prv b f (key b at_) r:Nat):Int)-1)=((prv b f (key b at_) r:Nat):Int)-1:=wrap_i64 (by omega) (by omega)
   refine (loop_next (bndL hfirst (cnd_t rfl (bndL hsecond (cnd_f (beq_eq_false_iff_ne.2 (by omega)) (bnd (congrArg some hw2) (bnd hix (bnd hgo (bnd (congrArg some hw3) rfl))))))))).trans ?_
   have:=ih r hr2 fu (by omega) (by omega) (by omega) (by rw [← hu]; exact hlt258)
   rw [← hu] at this
   exact this
theorem best_eq {b:List Int} {f at_:Nat} {x:T_match_index} (h:Ixd b f at_ x) (hb:∀ n∈b,0≤n∧n<256) (hl:b.length≤5000) (ha:at_<b.length) (hf:f≤at_-min at_ 2048) :
  match_index_best x (at_:Int)=some (((bestS b at_).1:Int),((bestS b at_).2:Int),x):=by
 have hs:=start_eq h hl (Nat.le_of_lt ha)
 unfold match_index_best
 by_cases h3:b.length<at_+3
 ·rw [if_pos h3] at hs
  have h0:bestS b at_=(0,0):=by
   unfold bestS clp
   rw [if_pos (by have:=(bestN_le b at_ (min at_ 2048)).2.1; omega)]
  rw [h0]
  exact bnd hs (bnd (ln_of rfl) (bnd (ln_of rfl) (cnd_t rfl rfl)))
 ·rw [if_neg h3] at hs
  have hk3:(key b at_).length=3:=by rw [key_len]; omega
  have hla:=h.la _ hk3
  have hg:mgetO 3 x.last (key b at_)=some ((prv b f (key b at_) at_:Nat):Int):=by
   unfold mgetO
   rw [if_pos ⟨hk3,key_byB hb at_⟩,hla]
  have hpl:=prv_le b f (key b at_) at_
  have hw3:IntKind.i64.wrap (((prv b f (key b at_) at_:Nat):Int)-1)=((prv b f (key b at_) at_:Nat):Int)-1:=wrap_i64 (by omega) (by omega)
  have hlp:=best_loop h hl (by omega) hf at_ BIG (Nat.le_refl _) (by omega) (by simp only [BIG]; omega) (by rw [Nat.sub_self]; show (clp (0,0)).1<258; decide)
  rw [Nat.sub_self] at hlp
  have hxb:=h.hb
  have hxf:=h.hf
  refine bnd hs (bnd (ln_of rfl) (bnd (ln_of hk3) (cnd_f rfl (bndL (s:=(b,x.last,x.back,(f:Int),(((bestS b at_).1:Nat):Int),(((bestS b at_).2:Nat):Int))) (bnd (ln_of hk3) (bnd hg (bnd (congrArg some hw3) (bndL (s:=(b,x.last,x.back,(f:Int),(((bestS b at_).1:Nat):Int),(((bestS b at_).2:Nat):Int))) ?_ rfl)))) ?_))))
  ·show loopF (beS (at_:Int)) BIG (x.b,x.last,x.back,x.from_,0,0,_)=_
   rw [hxb,hxf]
   exact hlp
  ·show some (_,_,T_match_index.mk b x.last x.back (f:Int))=_
   rw [← hxf,← hxb]
end Go.Abs.Sh

namespace Go.Abs.Sh
set_option linter.unusedVariables false
set_option linter.unusedSimpArgs false
set_option maxRecDepth 10000
def tkS (b:List Int):(((List T_Tok)×(List Int)×(List ((List Int)×Int))×(List Int)×Int×Int))→Option (((List T_Tok)×(List Int)×(List ((List Int)×Int))×(List Int)×Int×Int)⊕(((List T_Tok))⊕((List T_Tok)×Int))):=(fun ((s88,s89,s90,s91,s92,s93):(List T_Tok)×(List Int)×(List ((List Int)×Int))×(List Int)×Int×Int) =>
   cond ((decide (s93<(b.length:Int))))
    ((match_index_best (T_match_index.mk s89 s90 s91 s92) s93).bind fun v6 =>
    bindS (S:=Int×Int) (A:=(((List T_Tok)×(List Int)×(List ((List Int)×Int))×(List Int)×Int×Int)⊕(((List T_Tok))⊕((List T_Tok)×Int))))
     (cond ((v6.1==0))
      ((ixO s93 b.length).bind fun v8 =>
      (getO b v8).bind fun v9 =>
      some (.inl (v9,1)))
      (some (.inl (0,v6.1))))
     (fun ((s138,s139):Int×Int) =>
      (appO 24 s88 [(T_Tok.mk s138 v6.1 v6.2.1)]).bind fun v16 =>
      bindS (S:=((List Int)×(List ((List Int)×Int))×(List Int)×Int×Int)) (A:=(((List T_Tok)×(List Int)×(List ((List Int)×Int))×(List Int)×Int×Int)⊕(((List T_Tok))⊕((List T_Tok)×Int))))
       (loopF (S:=((List Int)×(List ((List Int)×Int))×(List Int)×Int×Int×Int)) (O:=((List Int)×(List ((List Int)×Int))×(List Int)×Int×Int)⊕(((List T_Tok)×(List Int)×(List ((List Int)×Int))×(List Int)×Int×Int)⊕(((List T_Tok))⊕((List T_Tok)×Int)))) (fun ((s152,s153,s154,s155,s156,s157):(List Int)×(List ((List Int)×Int))×(List Int)×Int×Int×Int) =>
        cond ((decide (0<s157)))
         ((match_index_add (T_match_index.mk s152 s153 s154 s155) s156).bind fun v18 =>
         (some (IntKind.i64.wrap (s156+1))).bind fun v19 =>
         (some (IntKind.i64.wrap (s157-1))).bind fun v20 =>
         some (.inl (v18.b,v18.last,v18.back,v18.from_,v19,v20)))
         (some (.inr (.inl (s152,s153,s154,s155,s156)))))
        BIG (v6.2.2.b,v6.2.2.last,v6.2.2.back,v6.2.2.from_,s93,s139))
       (fun ((s159,s160,s161,s162,s163):(List Int)×(List ((List Int)×Int))×(List Int)×Int×Int) =>
        some (.inl (v16,s159,s160,s161,s162,s163))) some) some)
    (some (.inr (.inl s88))))
def taS:(((List Int)×(List ((List Int)×Int))×(List Int)×Int×Int×Int))→Option (((List Int)×(List ((List Int)×Int))×(List Int)×Int×Int×Int)⊕(((List Int)×(List ((List Int)×Int))×(List Int)×Int×Int)⊕(((List T_Tok)×(List Int)×(List ((List Int)×Int))×(List Int)×Int×Int)⊕(((List T_Tok))⊕((List T_Tok)×Int))))):=(fun ((s152,s153,s154,s155,s156,s157):(List Int)×(List ((List Int)×Int))×(List Int)×Int×Int×Int) =>
        cond ((decide (0<s157)))
         ((match_index_add (T_match_index.mk s152 s153 s154 s155) s156).bind fun v18 =>
         (some (IntKind.i64.wrap (s156+1))).bind fun v19 =>
         (some (IntKind.i64.wrap (s157-1))).bind fun v20 =>
         some (.inl (v18.b,v18.last,v18.back,v18.from_,v19,v20)))
         (some (.inr (.inl (s152,s153,s154,s155,s156)))))
theorem bestS_cases (b:List Int) (at_:Nat):bestS b at_=(0,0)∨(3≤(bestS b at_).1∧(bestS b at_).1≤258∧at_+(bestS b at_).1≤b.length∧1≤(bestS b at_).2∧(bestS b at_).2≤min at_ 2048∧cmL b (at_-(bestS b at_).2) at_=(bestS b at_).1):=by
 have h1:=bestN_le b at_ (min at_ 2048)
 have h2:=bestN_is b at_ (min at_ 2048)
 unfold bestS clp
 by_cases h:(bestN b at_ (min at_ 2048)).1<3
 ·rw [if_pos h]; exact .inl rfl
 ·rw [if_neg h]
  rcases h2 with h2 | ⟨h3,h4,h5⟩
  ·rw [h2] at h; exact absurd (by decide) h
  ·exact .inr ⟨by omega,h1.1,by omega,h3,h1.2.2,h4.symm⟩
def toks (b:List Int):Nat→Nat→List T_Tok
 | 0,_=>[]
 | k+1,at_=>if at_<b.length then (if (bestS b at_).1=0 then ⟨b.getD at_ 0,0,0⟩::toks b k (at_+1) else ⟨0,((bestS b at_).1:Int),((bestS b at_).2:Int)⟩::toks b k (at_+(bestS b at_).1)) else []
def toksS (b:List Int):List T_Tok:=toks b b.length 0
theorem toks_end {b:List Int} {at_:Nat} (h:b.length≤at_):∀ k,toks b k at_=[]
 | 0=>rfl
 | k+1=>by unfold toks; rw [if_neg (by omega)]
theorem toks_len (b:List Int):∀ k at_,(toks b k at_).length≤b.length-at_
 | 0,_=>Nat.zero_le _
 | k+1,at_=>by
  unfold toks
  split
  ·split
   ·have:=toks_len b k (at_+1)
    simp only [List.length_cons]; omega
   ·have:=toks_len b k (at_+(bestS b at_).1)
    simp only [List.length_cons]; omega
  ·simp
theorem ta_loop {b:List Int} (hb:∀ n∈b,0≤n∧n<256) (hl:b.length≤5000):∀ (n cur fuel:Nat) (x:T_match_index),Ixd b 0 cur x→cur+n≤b.length→n<fuel →
  ∃ y,Ixd b 0 (cur+n) y∧loopF taS fuel (x.b,x.last,x.back,x.from_,(cur:Int),(n:Int))=some (.inl (y.b,y.last,y.back,y.from_,((cur+n:Nat):Int)))
 | 0,cur,fuel,x,h,hc,hf=>by
  obtain ⟨fu,rfl⟩:∃ fu,fuel=fu+1:=⟨fuel-1,by omega⟩
  exact ⟨x,h,loop_exit (show taS (x.b,x.last,x.back,x.from_,(cur:Int),((0:Nat):Int))=some (.inr (.inl (x.b,x.last,x.back,x.from_,(cur:Int)))) from rfl)⟩
 | n+1,cur,fuel,x,h,hc,hf=>by
  obtain ⟨fu,rfl⟩:∃ fu,fuel=fu+1:=⟨fuel-1,by omega⟩
  obtain ⟨y,hy,hi⟩:=add_eq h hb hl (by omega) (Nat.zero_le _)
  obtain ⟨z,hz,hlp⟩:=ta_loop hb hl n (cur+1) fu y hi (by omega) (by omega)
  refine ⟨z,by rw [show cur+(n+1)=cur+1+n by omega]; exact hz,?_⟩
  have hw:IntKind.i64.wrap (((n+1:Nat):Int)-1)=(n:Int):=by rw [wrap_i64 (by omega) (by omega)]; omega
  have hstep:taS (x.b,x.last,x.back,x.from_,(cur:Int),((n+1:Nat):Int))=some (.inl (y.b,y.last,y.back,y.from_,((cur+1:Nat):Int),(n:Int))) :=
   cnd_t (decide_eq_true (by omega)) (bnd hy (bnd (congrArg some (wrap_succ (n:=cur) (by omega))) (bnd (congrArg some hw) rfl)))
  rw [show ((cur+(n+1):Nat):Int)=((cur+1+n:Nat):Int) by omega]
  exact (loop_next hstep).trans hlp
theorem tk_loop {b:List Int} (hb:∀ n∈b,0≤n∧n<256) (hl:b.length≤5000):∀ (k at_ fuel:Nat) (l:List T_Tok) (x:T_match_index),Ixd b 0 at_ x→at_≤b.length→b.length-at_≤k→k<fuel→l.length≤at_ →
  loopF (tkS b) fuel (l,x.b,x.last,x.back,x.from_,(at_:Int))=some (.inl (l++toks b k at_))
 | 0,at_,fuel,l,x,h,ha,hk,hf,hll=>by
  obtain ⟨fu,rfl⟩:∃ fu,fuel=fu+1:=⟨fuel-1,by omega⟩
  rw [toks,List.append_nil]
  exact loop_exit (cnd_f (decide_eq_false (by omega)) rfl)
 | k+1,at_,fuel,l,x,h,ha,hk,hf,hll=>by
  obtain ⟨fu,rfl⟩:∃ fu,fuel=fu+1:=⟨fuel-1,by omega⟩
  by_cases he:at_<b.length
  case neg =>
   rw [toks_end (by omega),List.append_nil]
   exact loop_exit (cnd_f (decide_eq_false (by omega)) rfl)
  have hbe:=best_eq h hb hl he (by omega)
  have hg:getO b at_=some (b.getD at_ 0):=by
   rw [List.getD_eq_getElem?_getD,List.getElem?_eq_getElem he,Option.getD_some]; exact getO_of he
  unfold toks
  rw [if_pos he]
  have hap:∀ t:T_Tok,appO 24 l [t]=some (l++[t]):=fun t=>app_of (by simp only [List.length_cons,List.length_nil]; omega) (by simp only [List.length_cons,List.length_nil]; omega)
  rcases bestS_cases b at_ with h0 | ⟨c1,c2,c3,c4,c5,c6⟩
  ·rw [h0] at hbe ⊢
   rw [if_pos rfl]
   obtain ⟨y,hy,hlp⟩:=ta_loop hb hl 1 at_ BIG x h (by omega) (by simp only [BIG]; omega)
   have hn:=tk_loop hb hl k (at_+1) fu (l++[⟨b.getD at_ 0,0,0⟩]) y hy (by omega) (by omega) (by omega) (by simp; omega)
   rw [List.append_assoc] at hn
   exact (loop_next (cnd_t (decide_eq_true (by omega)) (bnd hbe (bndL (s:=(b.getD at_ 0,1)) (cnd_t rfl (bnd (ixO_of he) (bnd hg rfl))) (bnd (hap _) (bndL hlp rfl)))))).trans hn
  ·rw [if_neg (by omega)]
   obtain ⟨y,hy,hlp⟩:=ta_loop hb hl (bestS b at_).1 at_ BIG x h (by omega) (by simp only [BIG]; omega)
   have hn:=tk_loop hb hl k (at_+(bestS b at_).1) fu (l++[⟨0,((bestS b at_).1:Int),((bestS b at_).2:Int)⟩]) y hy (by omega) (by omega) (by omega) (by simp; omega)
   rw [List.append_assoc] at hn
   exact (loop_next (cnd_t (decide_eq_true (by omega)) (bnd hbe (bndL (s:=(0,((bestS b at_).1:Int))) (cnd_f (beq_eq_false_iff_ne.2 (by show (((bestS b at_).1:Nat):Int)≠0; omega)) rfl) (bnd (hap _) (bndL hlp rfl)))))).trans hn
theorem tokens_eq {b:List Int} (hb:∀ n∈b,0≤n∧n<256) (hl:b.length≤4096):match_Tokens b=some (toksS b,0):=by
 unfold match_Tokens
 have hlp:=tk_loop hb (by omega) b.length 0 BIG [] (T_match_index.mk b [] [] 0) (ix_new b 0) (Nat.zero_le _) (by omega) (by simp only [BIG]; omega) (Nat.zero_le _)
 refine cnd_f (decide_eq_false (by omega)) (bnd (x:=some (T_match_index.mk b [] [] 0)) rfl ?_)
 show bindS _ _ _=_
 exact bndL hlp rfl
def mcS (l:List T_Tok):((Int×Int))→Option ((Int×Int)⊕((Int)⊕Int)):=(fun ((s115,s116):Int×Int) =>
 cond ((decide (s116<(l.length:Int))))
  (bindS (S:=Int) (A:=((Int×Int)⊕((Int)⊕Int)))
   ((ixO s116 l.length).bind fun v2 =>
   (getO l v2).bind fun v3 =>
   bindS (S:=Int) (A:=(Int⊕((Int×Int)⊕((Int)⊕Int))))
    (bindS (S:=Bool) (A:=(Int⊕(Int⊕((Int×Int)⊕((Int)⊕Int)))))
     (cond ((v3.Len==0))
      (some (.inl (v3.Dist==0)))
      (some (.inl false)))
     (fun (s220:Bool) =>
      cond (s220)
       ((some (IntKind.i64.wrap (s115+1))).bind fun v9 =>
       some (.inl v9))
       (bindS (S:=Bool) (A:=(Int⊕(Int⊕((Int×Int)⊕((Int)⊕Int)))))
        ((match_validMatch v3).bind fun v10 =>
        cond (v10)
         (some (.inl ((decide (v3.Dist≤s115)))))
         (some (.inl false)))
        (fun (s225:Bool) =>
         cond (s225)
          ((some (IntKind.i64.wrap (s115+v3.Len))).bind fun v16 =>
          some (.inl v16))
          (some (.inr (.inr (.inr (.inr (1))))))) some)) some)
    (fun (s216:Int) =>
     some (.inl s216)) some)
   (fun (s202:Int) =>
    (some (IntKind.i64.wrap (s116+1))).bind fun v59 =>
    some (.inl (s202,v59))) some)
  (some (.inr (.inl s115))))
/-! Rows of tokens: what is right,and what they stand for. -/
def okT (t:T_Tok) (n:Int):Bool:=decide ((t.Len=0∧t.Dist=0)∨((t.Byte=0∧3≤t.Len∧t.Len≤258∧1≤t.Dist∧t.Dist≤2048)∧t.Dist≤n))
def tl (t:T_Tok):Nat:=if t.Len=0 then 1 else t.Len.toNat
def chkF:List T_Tok→Nat→Option Nat
 | [],n=>some n
 | t::l,n=>if okT t n=true then chkF l (n+tl t) else none
def cpy (d:Nat):List Int→Nat→List Int
 | b,0=>b
 | b,k+1=>cpy d (b++[b.getD (b.length-d) 0]) k
def exT (b:List Int) (t:T_Tok):List Int:=if t.Len=0 then b++[t.Byte] else cpy t.Dist.toNat b t.Len.toNat
def exF:List T_Tok→List Int→List Int
 | [],b=>b
 | t::l,b=>exF l (exT b t)
theorem tl_le {t:T_Tok} {n:Int} (h:okT t n=true):1≤tl t∧tl t≤258:=by
 unfold okT at h
 rw [decide_eq_true_eq] at h
 unfold tl
 split <;> omega
def vT (t:T_Tok):Bool:=decide (t.Byte=0∧3≤t.Len∧t.Len≤258∧1≤t.Dist∧t.Dist≤2048)
theorem mvalid_eq (t:T_Tok):match_validMatch t=some (vT t):=by
 unfold match_validMatch
 by_cases h1:t.Byte=0
 case neg =>
  have e:vT t=false:=decide_eq_false fun h=>h1 h.1
  rw [e]
  exact bndL (s:=false) (cnd_f (beq_eq_false_iff_ne.2 h1) rfl) rfl
 by_cases h2:3≤t.Len
 case neg =>
  have e:vT t=false:=decide_eq_false fun h=>h2 h.2.1
  rw [e]
  exact bndL (s:=false) (cnd_t (beq_iff_eq.2 h1) (cnd_f (decide_eq_false h2) rfl)) rfl
 by_cases h3:t.Len≤258
 case neg =>
  have e:vT t=false:=decide_eq_false fun h=>h3 h.2.2.1
  rw [e]
  exact bndL (s:=false) (cnd_t (beq_iff_eq.2 h1) (cnd_t (decide_eq_true h2) (cnd_f (decide_eq_false h3) rfl))) rfl
 by_cases h4:1≤t.Dist
 case neg =>
  have e:vT t=false:=decide_eq_false fun h=>h4 h.2.2.2.1
  rw [e]
  exact bndL (s:=false) (cnd_t (beq_iff_eq.2 h1) (cnd_t (decide_eq_true h2) (cnd_t (decide_eq_true h3) (cnd_f (decide_eq_false h4) rfl)))) rfl
 have e:vT t=decide (t.Dist≤2048):=decide_eq_decide.2 ⟨fun h=>h.2.2.2.2,fun h=>⟨h1,h2,h3,h4,h⟩⟩
 rw [e]
 exact bndL (s:=decide (t.Dist≤2048)) (cnd_t (beq_iff_eq.2 h1) (cnd_t (decide_eq_true h2) (cnd_t (decide_eq_true h3) (cnd_t (decide_eq_true h4) rfl)))) rfl
theorem mc_step (l:List T_Tok) {i:Nat} {n:Nat} (hi:i<l.length) (hil:i<1000000000) (hn:n≤1000000000000):mcS l ((n:Int),(i:Int))=some (if okT l[i] n=true then .inl (((n+tl l[i]:Nat):Int),((i+1:Nat):Int)) else .inr (.inr 1)):=by
 have hg:=getO_of hi
 generalize l[i]=t at hg
 have hw1:IntKind.i64.wrap ((n:Int)+1)=((n+1:Nat):Int):=wrap_succ (by omega)
 have hwi:IntKind.i64.wrap ((i:Int)+1)=((i+1:Nat):Int):=wrap_succ (by omega)
 by_cases hz:t.Len=0∧t.Dist=0
 ·have ho:okT t n=true:=by unfold okT; rw [decide_eq_true_eq]; exact .inl hz
  rw [if_pos ho]
  have htl:tl t=1:=by unfold tl; rw [if_pos hz.1]
  rw [htl]
  exact cnd_t (decide_eq_true (by omega)) (bndL (s:=((n+1:Nat):Int)) (bnd (ixO_of hi) (bnd hg (bndL (s:=((n+1:Nat):Int)) (bndL (s:=true) (cnd_t (beq_iff_eq.2 hz.1) (by rw [beq_iff_eq.2 hz.2])) (cnd_t rfl (bnd (congrArg some hw1) rfl))) rfl))) (bnd (congrArg some hwi) rfl))
 ·have hfirst:∀ {A:Type},(cond ((t.Len==0)) (some (.inl (t.Dist==0))) (some (.inl false)):Option (Bool⊕A))=some (.inl false):=by
   intro A
   by_cases h:t.Len=0
   ·exact cnd_t (beq_iff_eq.2 h) (by rw [beq_eq_false_iff_ne.2 fun e=>hz ⟨h,e⟩])
   ·exact cnd_f (beq_eq_false_iff_ne.2 h) rfl
  by_cases hv:t.Byte=0∧3≤t.Len∧t.Len≤258∧1≤t.Dist∧t.Dist≤2048
  ·have hve:=mvalid_eq t
   rw [show vT t=true from decide_eq_true hv] at hve
   by_cases hd:t.Dist≤(n:Int)
   ·have ho:okT t n=true:=by unfold okT; rw [decide_eq_true_eq]; exact .inr ⟨hv,hd⟩
    rw [if_pos ho]
    have hw:IntKind.i64.wrap ((n:Int)+t.Len)=((n+tl t:Nat):Int):=by
     unfold tl
     rw [if_neg (by omega),wrap_i64 (by omega) (by omega)]; omega
    exact cnd_t (decide_eq_true (by omega)) (bndL (s:=((n+tl t:Nat):Int)) (bnd (ixO_of hi) (bnd hg (bndL (s:=((n+tl t:Nat):Int)) (bndL hfirst (cnd_f rfl (bndL (s:=true) (bnd hve (cnd_t rfl (by rw [decide_eq_true hd]))) (cnd_t rfl (bnd (congrArg some hw) rfl))))) rfl))) (bnd (congrArg some hwi) rfl))
   ·have ho:¬ okT t n=true:=by unfold okT; rw [decide_eq_true_eq]; rintro (h | h); exact hz h; exact hd h.2
    rw [if_neg ho]
    exact cnd_t (decide_eq_true (by omega)) (bndR (a := .inr (.inr 1)) (bnd (ixO_of hi) (bnd hg (bndR (a := .inr (.inr (.inr 1))) (bndL hfirst (cnd_f rfl (bndL (s:=false) (bnd hve (cnd_t rfl (by rw [decide_eq_false hd]))) (cnd_f rfl rfl)))) rfl))) rfl)
  ·have hve:=mvalid_eq t
   rw [show vT t=false from decide_eq_false hv] at hve
   have ho:¬ okT t n=true:=by unfold okT; rw [decide_eq_true_eq]; rintro (h | h); exact hz h; exact hv h.1
   rw [if_neg ho]
   exact cnd_t (decide_eq_true (by omega)) (bndR (a := .inr (.inr 1)) (bnd (ixO_of hi) (bnd hg (bndR (a := .inr (.inr (.inr 1))) (bndL hfirst (cnd_f rfl (bndL (s:=false) (bnd hve (cnd_f rfl rfl)) (cnd_f rfl rfl)))) rfl))) rfl)
theorem mc_loop (l:List T_Tok) (hl:l.length≤1000000):∀ (k i fuel n:Nat),i+k=l.length→k<fuel→n≤258 * i→loopF (mcS l) fuel ((n:Int),(i:Int))=some (match chkF (l.drop i) n with | some m => .inl (m:Int) | none => .inr 1)
 | 0,i,fuel,n,hk,hf,hn=>by
  obtain ⟨fu,rfl⟩:∃ fu,fuel=fu+1:=⟨fuel-1,by omega⟩
  rw [List.drop_of_length_le (by omega)]
  exact loop_exit (cnd_f (decide_eq_false (by omega)) rfl)
 | k+1,i,fuel,n,hk,hf,hn=>by
  obtain ⟨fu,rfl⟩:∃ fu,fuel=fu+1:=⟨fuel-1,by omega⟩
  have hi:i<l.length:=by omega
  have hs:=mc_step l hi (by omega) (by omega:n≤1000000000000)
  rw [List.drop_eq_getElem_cons hi]
  simp only [chkF]
  by_cases ho:okT l[i] n=true
  ·rw [if_pos ho] at hs ⊢
   have:=tl_le ho
   exact (loop_next hs).trans (mc_loop l hl k (i+1) fu (n+tl l[i]) (by omega) (by omega) (by omega))
  ·rw [if_neg ho] at hs ⊢
   exact loop_exit hs
def ckE (l:List T_Tok):Int:=match chkF l 0 with | some n=>if 4096<n then 2 else 0 | none=>1
theorem check_eq {l:List T_Tok} (hl:l.length≤1000000):match_Check l=some (ckE l):=by
 have h:=mc_loop l hl l.length 0 BIG 0 (by omega) (by simp only [BIG]; omega) (by omega)
 rw [List.drop_zero] at h
 unfold match_Check ckE
 cases hc:chkF l 0 with
 | none =>
  rw [hc] at h
  exact bndR h rfl
 | some n =>
  rw [hc] at h
  refine bndL h ?_
  by_cases h4:4096<n
  ·simp only [if_pos h4]; exact cnd_t (decide_eq_true (by omega)) rfl
  ·simp only [if_neg h4]; exact cnd_f (decide_eq_false (by omega)) rfl
theorem cpy_len (d:Nat):∀ (b:List Int) (k:Nat),(cpy d b k).length=b.length+k
 | b,0=>rfl
 | b,k+1=>by
  unfold cpy
  rw [cpy_len d _ k]
  simp; omega
theorem exT_len {b:List Int} {t:T_Tok} {n:Int} (h:okT t n=true):(exT b t).length=b.length+tl t:=by
 unfold okT at h
 rw [decide_eq_true_eq] at h
 unfold exT tl
 split
 ·simp
 ·rw [cpy_len]
/-! A text's own tokens. -/
theorem chk_toks (b:List Int) (m:Nat):∀ (k at_:Nat),b.length-at_≤k→at_≤b.length→chkF (toks b k at_) (m+at_)=some (m+b.length)
 | 0,at_,hk,ha=>by
  obtain rfl:at_=b.length:=by omega
  rfl
 | k+1,at_,hk,ha=>by
  unfold toks
  split
  ·rename_i he
   rcases bestS_cases b at_ with h0 | ⟨c1,c2,c3,c4,c5,c6⟩
   ·rw [h0,if_pos rfl]
    simp only [chkF]
    have ho:okT ⟨b.getD at_ 0,0,0⟩ ((m+at_:Nat):Int)=true:=by unfold okT; rw [decide_eq_true_eq]; exact .inl ⟨rfl,rfl⟩
    rw [if_pos ho]
    exact chk_toks b m k (at_+1) (by omega) (by omega)
   ·rw [if_neg (by omega)]
    simp only [chkF]
    have ho:okT ⟨0,((bestS b at_).1:Int),((bestS b at_).2:Int)⟩ ((m+at_:Nat):Int)=true:=by
     unfold okT; rw [decide_eq_true_eq]
     exact .inr ⟨⟨rfl,by show (3:Int)≤((bestS b at_).1:Int); omega,by show ((bestS b at_).1:Int)≤258; omega,by show (1:Int)≤((bestS b at_).2:Int); omega,by show ((bestS b at_).2:Int)≤2048; omega⟩,by show ((bestS b at_).2:Int)≤((m+at_:Nat):Int); omega⟩
    rw [if_pos ho]
    have htl:tl ⟨0,((bestS b at_).1:Int),((bestS b at_).2:Int)⟩=(bestS b at_).1:=by unfold tl; rw [if_neg (by show ¬ ((bestS b at_).1:Int)=0; omega)]; simp
    rw [htl,Nat.add_assoc]
    exact chk_toks b m k (at_+(bestS b at_).1) (by omega) (by omega)
  ·simp only [chkF]
   rw [show at_=b.length by omega]
theorem cpy_take {b:List Int} (a:List Int) {d:Nat}:∀ (k at_:Nat),1≤d→d≤at_→at_+k≤b.length→(∀ j,j<k→b[at_-d+j]? = b[at_+j]?)→cpy d (a++b.take at_) k=a++b.take (at_+k)
 | 0,at_,_,_,_,_=>rfl
 | k+1,at_,h1,h2,h3,h=>by
  have hlt:at_<b.length:=by omega
  have e:(a++b.take at_).getD ((a++b.take at_).length-d) 0=b[at_]:=by
   have hl:(a++b.take at_).length-d=a.length+(at_-d):=by simp; omega
   rw [hl,List.getD_eq_getElem?_getD,List.getElem?_append_right (by omega),Nat.add_sub_cancel_left,List.getElem?_take,if_pos (by omega)]
   have:=h 0 (by omega)
   rw [Nat.add_zero,Nat.add_zero] at this
   rw [this,List.getElem?_eq_getElem hlt,Option.getD_some]
  unfold cpy
  rw [e,List.append_assoc,← List.take_succ_eq_append_getElem hlt]
  have:=cpy_take (b:=b) a (d:=d) k (at_+1) h1 (by omega) (by omega) fun j hj=>by
   have:=h (j+1) (by omega)
   rwa [show at_+1-d+j=at_-d+(j+1) by omega,show at_+1+j=at_+(j+1) by omega]
  rw [this,show at_+1+k=at_+(k+1) by omega]
theorem ex_toks (b a:List Int):∀ (k at_:Nat),b.length-at_≤k→at_≤b.length→exF (toks b k at_) (a++b.take at_)=a++b
 | 0,at_,hk,ha=>by
  obtain rfl:at_=b.length:=by omega
  simp [toks,exF]
 | k+1,at_,hk,ha=>by
  unfold toks
  split
  ·rename_i he
   rcases bestS_cases b at_ with h0 | ⟨c1,c2,c3,c4,c5,c6⟩
   ·rw [h0,if_pos rfl]
    simp only [exF]
    have hx:exT (a++b.take at_) ⟨b.getD at_ 0,0,0⟩=a++b.take (at_+1):=by
     unfold exT
     rw [if_pos rfl,List.append_assoc,List.take_succ_eq_append_getElem he,List.getD_eq_getElem?_getD,List.getElem?_eq_getElem he,Option.getD_some]
    rw [hx]
    exact ex_toks b a k (at_+1) (by omega) (by omega)
   ·rw [if_neg (by omega)]
    simp only [exF]
    have hx:exT (a++b.take at_) ⟨0,((bestS b at_).1:Int),((bestS b at_).2:Int)⟩=a++b.take (at_+(bestS b at_).1):=by
     unfold exT
     rw [if_neg (by show ¬ ((bestS b at_).1:Int)=0; omega)]
     simp only [Int.toNat_natCast]
     refine cpy_take a _ _ c4 (by omega) c3 fun j hj=>cm_get (by omega)
    rw [hx]
    exact ex_toks b a k (at_+(bestS b at_).1) (by omega) (by omega)
  ·rw [show at_=b.length by omega]
   simp [exF]
theorem bys {l:List Int} (h:wfL (wfI .u8) l):∀ n∈l,0≤n∧n<256:=by
 intro x hx
 have:=h.2 x hx
 unfold wfI at this
 have h1:IntKind.u8.min=0:=by decide
 have h2:IntKind.u8.max=255:=by decide
 simp [Lit.wf,h1,h2] at this
 omega
theorem toksS_len (b:List Int):(toksS b).length≤b.length:=by
 have:=toks_len b b.length 0
 unfold toksS; omega
theorem chk_toksS (b:List Int):chkF (toksS b) 0=some b.length:=by
 have:=chk_toks b 0 b.length 0 (by omega) (by omega)
 simpa [toksS] using this
theorem ex_toksS (b:List Int):exF (toksS b) []=b:=by
 have:=ex_toks b [] b.length 0 (by omega) (by omega)
 simpa [toksS] using this
theorem keepB {a:List Int} (h:a.length<4294967296):wherrykeep_Bytes a a=some true:=by
 have:=keepBytes_eq a a h
 rwa [decide_eq_true rfl] at this
end Go.Abs.Sh
