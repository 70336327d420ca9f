import Derived.Test.YtjnnkhmhjcjhdaaGreatDoorGatE
namespace Go.Abs.Sh
set_option linter.unusedVariables false
set_option linter.unusedSimpArgs false
set_option linter.unusedSectionVars false
set_option maxRecDepth 100000
abbrev Em (g:bp):bp:=bp.mk 1 g.Helo GZ [] false [] g.Challenge g.Proved
theorem vu {z t:List Int} {ls:List (List Int)} {r:List Int} (h:fi (z++13::10::t)=some z.length) (H:uh t ls r):uh (z++13::10::t) (z::ls) r:=by
 have:=uh.cons (b:=z++13::10::t) h (ls:=ls) (r:=r) (by
  have e2:(z++13::10::t).drop (z.length+2)=t:=by rw [List.drop_append]; simp
  rw [e2]; exact H)
 have e3:(z++13::10::t).take z.length=z:=by simp
 rw [e3] at this
 exact this
theorem wB (ls:List (List Int)) {i:Nat} (h:i<ls.length):jk (ls.take (i+1))=jk (ls.take i)+(ls[i].length+2):=by
 rw [List.take_add_one,List.getElem?_eq_getElem h,qI]
 simp [jk]
theorem Fj (ls:List (List Int)) (i:Nat):jk (ls.take i)≤jk ls:=by
 have:=congrArg jk (List.take_append_drop i ls)
 rw [qI] at this
 omega
section
variable {L:List (List Int)} (H1:uh (jn L) L []) (H2:uh (jn (L++[[46]])) (L++[[46]]) []) (hd:∀ l∈L,l≠[46]) (hb:∀ l∈L,kC l) (ht:jk L<80000)
include H1 H2 hd hb ht
theorem FV:kC (jn (L++[[46]])):=by
 rw [rn]
 exact Ac (CT hb) (by decide)
theorem CV:(jn (L++[[46]])).length=jk L+3:=by rw [pP,qI]; rfl
theorem Bk (hc:¬ ∀ l∈L,sG l):jK (jn (L++[[46]]))=some ([],0,5):=by
 have hl:=CV H1 H2 hd hb ht
 have hB:=FV H1 H2 hd hb ht
 have e1:ml (jn (L++[[46]])) 0 (jk L:Int)=some (jn L):=by
  have:=qj (jn (L++[[46]])) (a:=0) (b:=jk L) (by omega) (by omega)
  rw [rn] at this ⊢
  rw [← pP] at this ⊢
  simpa using this
 unfold jK
 refine db (x:=((jk L:Int),true)) ?_ (cK rfl (db e1 (db (x:=5) ?_ (cQ rfl rfl))))
 ·unfold jP eY
  refine db rfl (DF (a:=(jk L:Int)) (nG tl H2 hB (by omega) _ _ ?_) rfl)
  refine (xg L _ 0 (fun l hl=>⟨hb l hl,hd l hl⟩) (by omega)).trans ?_
  simp only [qt,CP]
  simp
 ·obtain ⟨o,ho⟩:=Bf L 0 hb (by omega) hc
  unfold iq eY
  exact db rfl (DF (a:=o) (nG _ H1 (CT hb) (by rw [pP]; omega) _ _ ho) rfl)
theorem Bv:gV (jn (L++[[46]]))=some ((jk L+3:Nat):Int):=by
 have hl:=CV H1 H2 hd hb ht
 have hB:=FV H1 H2 hd hb ht
 have hlen:2 * L.length≤jk L:=by
  clear H1 H2 hd hb ht hl hB
  induction L with
  | nil=>exact Nat.le_refl _
  | cons l L ih=>simp only [jk,List.length_cons]; omega
 unfold gV
 refine fG (s:=((jk L+3:Nat):Int)) (db (Ep H2 hB (by omega)) ?_) rfl
 refine fG (s:=((jk L+3:Nat):Int)) (kH (fun i=>((jk (L.take i):Int),(i:Int))) L.length _ rfl (by simp only [kB]; omega) (fun i hi => ?_) ?_) rfl
 ·have hi':i<(L++[[46]]).length:=by rw [List.length_append]; omega
  have hg:(L++[[46]])[i]=L[i]:=List.getElem_append_left hi
  have hm:=List.getElem_mem hi
  have hle:=Fj L (i+1)
  rw [wB L hi] at hle
  refine cQ (decide_eq_true (by omega)) (db (jg hi') (db (gg hi') ?_))
  rw [hg]
  refine db (iA (by omega) (by omega)) (db (iA (by omega) (by omega)) (db rfl (cK ?_ (db (iA (by omega) (by omega)) ?_))))
  ·rw [qC (hb _ hm)]; exact decide_eq_false (hd _ hm)
  ·show some (Sum.inl ((jk (L.take i):Int)+((L[i].length:Int)+2),(i:Int)+1))=some (Sum.inl ((jk (L.take (i+1)):Int),((i+1:Nat):Int)))
   rw [wB L hi]
   rfl
 ·have hi':L.length<(L++[[46]]).length:=by rw [List.length_append]; exact Nat.lt_succ_self _
  have hg:(L++[[46]])[L.length]=[46]:=by rw [List.getElem_append_right (Nat.le_refl _)]; simp
  refine cQ (decide_eq_true (by omega)) (db (jg hi') (db (gg hi') ?_))
  rw [hg,List.take_length]
  refine db (x:=3) rfl (db (iA (by omega) (by omega)) (db rfl (cQ ?_ rfl)))
  rw [qC (by decide)]; rfl
theorem Cy {i t:Int} {g:bp} {o:List bi} (hc:¬ ∀ l∈L,sG l) (ho:o.length<100000) :
  el (SG i t (jy g (jn (L++[[46]]))) o)=some (true,SG i t (Em g) (o++[jS 554])):=by
 have hl:=CV H1 H2 hd hb ht
 unfold el
 refine db (Bk H1 H2 hd hb ht hc) (cK rfl (db (FN (g:=jy g (jn (L++[[46]]))) (o:=o) (code:=554) (by decide)) ?_))
 refine fG (s:=(g.Phase,g.Helo,g.From.Null,g.From.Local,g.From.Domain,g.To,g.Quiet,jn (L++[[46]]),g.Challenge,g.Proved,(⟨#[97]⟩:ByteArray),(⟨#[98]⟩:ByteArray),9,(⟨#[117]⟩:ByteArray),(⟨#[115]⟩:ByteArray),9000,false,i,t,o,((jk L+3:Nat):Int),554,[(⟨#[110,111]⟩:ByteArray)],false,false,(⟨#[]⟩:ByteArray),(⟨#[]⟩:ByteArray),[],[],false,(⟨#[]⟩:ByteArray),0,false)) (cK rfl (db (Bv H1 H2 hd hb ht) rfl)) ?_
 refine db (ij (k:=168) (l:=o) (m:=[_]) (by simp; omega) (by simp; omega)) (db (x:=[]) ?_ (db rfl rfl))
 rw [← hl,qj (jn (L++[[46]])) (Nat.le_refl _) (Nat.le_refl _)]
 rw [List.drop_length,List.take_nil]
theorem Fx {i t:Int} {g:bp} {o:List bi} (h4:g.Phase=4) (hc:¬ ∀ l∈L,sG l) (hE:su (jn (L++[[46]]))=true) (ho:o.length<100000) :
  FR i t (jy g [],o) (jn (L++[[46]])) (Em g,o++[jS 554]):=by
 have hl:=CV H1 H2 hd hb ht
 have hB:=FV H1 H2 hd hb ht
 have h1:=EC (i:=i) (t:=t) (g:=g) (o:=o) h4 (jn (L++[[46]])) hB (by omega) (jk L+2) (by omega) (fun k _ hk=>Bq H2 hd (by omega))
 have e:jn (L++[[46]])=(jn (L++[[46]])).take (jk L+2)++[(jn (L++[[46]]))[jk L+2]]:=by
  have:=List.take_append_drop (jk L+2) (jn (L++[[46]]))
  rw [List.drop_eq_getElem_cons (by omega),List.drop_eq_nil_of_le (by omega)] at this
  exact this.symm
 generalize (jn (L++[[46]]))[jk L+2]=x at e
 have h2:qk i t 1 x (jy g ((jn (L++[[46]])).take (jk L+2)),o) (Em g,o++[jS 554]):=by
  refine ⟨by show ((jn (L++[[46]])).take (jk L+2)).length<_; rw [List.length_take]; omega,true,?_,?_⟩
  ·rw [if_neg (by decide)]
   show cn (SG i t (jy g ((jn (L++[[46]])).take (jk L+2)++[x])) o) x=_
   rw [← e]
   refine (uQ (g:=jy g (jn (L++[[46]]))) h4 hB (by show (jn (L++[[46]])).length<_; omega)).trans ?_
   exact congrArg (fun c=>some (c,SG i t (jy g (jn (L++[[46]]))) o)) hE
  ·rw [if_pos rfl]
   show cP (SG i t (jy g ((jn (L++[[46]])).take (jk L+2)++[x])) o)=_
   rw [← e]
   refine EH (g1:=Em g) (o1:=o++[jS 554]) ?_ (wA rfl)
   unfold bW
   exact cQ (beq_iff_eq.2 h4) (db (Cy H1 H2 hd hb ht hc ho) rfl)
 have h3:=h1.app (.one h2)
 rw [← e] at h3
 exact h3
end
/-! What stands on the line for it. -/
def po:Bool→List Int→List Int
 | _,[]=>[]
 | d,v::l=>if v=46∧d=true then 46::46::po false l else v::po (decide (v=10)) l
theorem uH (d:Bool) (v:Int) (l:List Int):po d (v::l)=if v=46∧d=true then 46::46::po false l else v::po (decide (v=10)) l:=rfl
def rU (d:Bool) (l:List Int):Bool:=match l.getLast? with | none=>d | some v=>decide (v=10)
theorem sX:∀ (d:Bool) (l:List Int) (v:Int),po d (l++[v])=po d l++(if v=46∧rU d l=true then [46,v] else [v])
 | d,[],v=>by
  show po d [v]=[]++(if v=46∧d=true then [46,v] else [v])
  rw [uH]
  by_cases h:v=46∧d=true
  ·rw [if_pos h,if_pos h,h.1]; rfl
  ·rw [if_neg h,if_neg h]; rfl
 | d,x::l,v=>by
  have hl:∀ e:Bool,e=decide (x=10)→rU d (x::l)=rU e l:=by
   rintro e rfl
   unfold rU
   rw [List.getLast?_cons]
   cases hq:l.getLast? with
   | none=>simp
   | some y=>simp
  rw [List.cons_append]
  by_cases h:x=46∧d=true
  ·have h0:false=decide (x=10):=by rw [decide_eq_false (by omega)]
   simp only [po,if_pos h]
   rw [sX false l v,hl false h0]
   simp
  ·simp only [po,if_neg h]
   rw [sX (decide (x=10)) l v,hl _ rfl]
   simp
theorem zt (b:List Int) (hl:b.length<100000):dF b=some (po true b):=by
 have hle:∀ (d:Bool) (l:List Int),(po d l).length≤2 * l.length:=by
  intro d l
  induction l generalizing d with
  | nil=>exact Nat.le_refl _
  | cons x l ih =>
   unfold po
   split
   ·have:=ih false
    simp only [List.length_cons]; omega
   ·have:=ih (decide (x=10))
    simp only [List.length_cons]; omega
 unfold dF
 refine fG (s:=po true b) (kH (fun i=>(po true (b.take i),(i:Int))) b.length _ rfl (by simp only [kB]; omega) (fun i hi => ?_) ?_) rfl
 ·have e:b.take (i+1)=b.take i++[b[i]]:=by rw [List.take_add_one,List.getElem?_eq_getElem hi]; rfl
  have hs:=sX true (b.take i) b[i]
  rw [← e] at hs
  have h2:=hle true (b.take i)
  rw [List.length_take] at h2
  have hlast:rU true (b.take i)=(if i=0 then true else decide (b[i-1]'(by omega)=10)):=by
   unfold rU
   by_cases h0:i=0
   ·subst h0; rfl
   ·rw [if_neg h0]
    have:(b.take i).getLast? = some (b[i-1]'(by omega)):=by
     rw [List.getLast?_eq_getElem?,List.length_take,List.getElem?_take,if_pos (by omega)]
     rw [show min i b.length-1=i-1 by omega,List.getElem?_eq_getElem (by omega)]
    rw [this]
  refine cQ (decide_eq_true (by omega)) ?_
  obtain ⟨q,hq⟩:∃ q:Bool,q=decide (b[i]=46∧rU true (b.take i)=true):=⟨_,rfl⟩
  refine fG (s:=if q=true then po true (b.take i)++[46] else po true (b.take i)) (fG (s:=q) (db (jg hi) (db (gg hi) ?_)) ?_) ?_
  ·by_cases h46:b[i]=46
   ·refine cQ (beq_iff_eq.2 h46) ?_
    by_cases h0:i=0
    ·refine cQ (beq_iff_eq.2 (by omega)) ?_
     rw [hq,hlast,if_pos h0]
     simp [h46]
    ·refine cK (beq_eq_false_iff_ne.2 (by omega)) (db (x:=((i-1:Nat):Int)) ?_ (db (jg (by omega)) (db (gg (by omega)) ?_)))
     ·rw [qN (by omega) (by omega)]; congr 1; omega
     ·rw [hq,hlast,if_neg h0]
      congr 2
      rw [Bool.eq_iff_iff,beq_iff_eq,decide_eq_true_eq,decide_eq_true_eq]
      exact ⟨fun h=>⟨h46,h⟩,fun h=>h.2⟩
   ·refine cK (beq_eq_false_iff_ne.2 h46) ?_
    rw [hq,decide_eq_false (fun h=>h46 h.1)]
  ·cases q
   ·exact cK rfl rfl
   ·exact cQ rfl (db (ij (by simp; omega) (by simp; omega)) rfl)
  ·have hz:(if q=true then po true (b.take i)++[46] else po true (b.take i))++[b[i]]=po true (b.take (i+1)):=by
    rw [hs,hq]
    by_cases h:b[i]=46∧rU true (b.take i)=true
    ·rw [decide_eq_true h,if_pos rfl,if_pos h]; simp
    ·rw [decide_eq_false h,if_neg (by decide),if_neg h]
   refine db (jg hi) (db (gg hi) (db (ij (k:=1) (m:=[b[i]]) ?_ ?_) (db (iA (by omega) (by omega)) ?_)))
   ·split <;> simp <;> omega
   ·split <;> simp <;> omega
   ·rw [hz]; rfl
 ·rw [List.take_length]
  exact cK (decide_eq_false (by omega)) rfl
theorem pm:∀ {l:List Int} (t:List Int),sG l→po false (l++13::10::t)=l++13::10::po true t
 | [],t,_=>by simp [po]
 | v::l,t,h=>by
  have hv:=(h v (by simp)).2
  rw [List.cons_append,uH,if_neg (fun e=>by cases e.2),decide_eq_false hv,pm t fun x hx=>h x (by simp [hx])]
  rfl
theorem BR {l:List Int} (t:List Int) (h:sG l):po true (l++13::10::t)=nf l++13::10::po true t:=by
 cases l with
 | nil=>simp [po,nf]
 | cons v l =>
  have hl:sG l:=fun x hx=>h x (by simp [hx])
  have hv:=(h v (by simp)).2
  rw [List.cons_append,uH]
  unfold nf
  by_cases h46:v=46
  ·rw [if_pos ⟨h46,rfl⟩,pm t hl]
   subst h46
   rw [if_pos (by rfl)]; rfl
  ·rw [if_neg (fun e=>h46 e.1),decide_eq_false hv,pm t hl,if_neg (by simpa using h46)]; rfl
theorem De:∀ (ls:List (List Int)) (t:List Int),(∀ l∈ls,sG l)→po true (jn ls++t)=jn (ls.map nf)++po true t
 | [],t,_=>rfl
 | l::ls,t,h=>by
  have e:jn (l::ls)++t=l++13::10::(jn ls++t):=by simp [jn]
  rw [e,BR _ (h l (by simp)),De ls t fun x hx=>h x (by simp [hx])]
  simp [jn]
end Go.Abs.Sh
