import Derived.Test.YtofbofdggabfiaaGreatDoorTaxE
import Derived.KernelRfl
namespace Go.Abs.Sh
set_option linter.unusedVariables false
set_option linter.unusedSimpArgs false
set_option maxRecDepth 100000
def keS (a b:List T_Event):((Int))→Option ((Int)⊕((Unit)⊕Bool)):=(fun (s13:Int) =>
  cond ((decide (s13<(a.length:Int))))
   ((ixO s13 a.length).bind fun v3 =>
   (getO a v3).bind fun v4 =>
   (ixO s13 b.length).bind fun v5 =>
   (getO b v5).bind fun v6 =>
   (wherrykeep_Event ((T_Event.mk v4.Kind v4.Site (T_Path.mk v4.From.Null v4.From.Local v4.From.Domain) (T_Path.mk v4.To.Null v4.To.Local v4.To.Domain) v4.Body)) ((T_Event.mk v6.Kind v6.Site (T_Path.mk v6.From.Null v6.From.Local v6.From.Domain) (T_Path.mk v6.To.Null v6.To.Local v6.To.Domain) v6.Body))).bind fun v7 =>
   cond ((!v7))
    (some (.inr (.inr (false))))
    ((some (IntKind.i64.wrap (s13+1))).bind fun v9 =>
    some (.inl v9)))
   (some (.inr (.inl ()))))
theorem kevents {l:List T_Event} (hl:l.length≤100000) (hb:∀ e∈l,e.Body.length<4294967296):wherrykeep_Events l l=some true:=by
 unfold wherrykeep_Events
 refine cnd_f (bne_self_eq_false _) (bndL (s:=()) (loop_from (f:=keS l l) (fun i=>((i:Nat):Int)) l.length BIG rfl (by simp only [BIG]; omega) (fun i hi => ?_) (cnd_f (decide_eq_false (by omega)) rfl)) rfl)
 have ke:=kevent l[i] l[i] (hb _ (List.getElem_mem hi))
 rw [decide_eq_true rfl] at ke
 exact cnd_t (decide_eq_true (by omega)) (bnd (ixO_of hi) (bnd (getO_of hi) (bnd (ixO_of hi) (bnd (getO_of hi) (bnd ke (cnd_f rfl (bnd (congrArg some (wrap_succ (n:=i) (by omega))) rfl)))))))
theorem kpaths {l:List T_Path} (hl:l.length≤100000):wherrykeep_Paths l l=some true:=by
 rw [keepPaths_eq l l (by omega),decide_eq_true rfl]
theorem far_same {a b U S:ByteArray} {E L:Int} {H:Bool} {m:T_Mail} (i:Int) (ha:a.size≤2000) (hb:b.size≤2000) (hl:m.To.length≤40) (hm:mRe m) :
  ∃ v:List T_Path,v.length≤40∧tally_Far (T_Config.mk ([a,b]:List ByteArray) E U S L H) i (T_Mail.mk (T_Path.mk m.From.Null m.From.Local m.From.Domain) m.To m.Body m.Quiet m.Helo m.At)=some v∧wherryref23_FarOf (T_Config.mk ([a,b]:List ByteArray) E U S L H) i (T_Mail.mk (T_Path.mk m.From.Null m.From.Local m.From.Domain) m.To m.Body m.Quiet m.Helo m.At)=some v:=by
 have ea:=eat_eq (m:=m) (d:=a) ha hl hm
 have eb:=eat_eq (m:=m) (d:=b) hb hl hm
 have ya:=xway_eq (m:=m) (d:=a) ha hl hm
 have yb:=xway_eq (m:=m) (d:=b) hb hl hm
 have fl:∀ d,(m.To.filter fun p=>atpB p d).length≤40:=fun d=>by have:=List.length_filter_le (fun p=>atpB p d) m.To; omega
 by_cases h0:i=0
 ·subst h0
  refine ⟨_,fl b,?_,?_⟩
  ·unfold tally_Far
   exact bndL (s:=false) rfl (cnd_f rfl (bnd (show some (IntKind.i64.wrap (1-0))=some ((1:Nat):Int) by decide) (bnd (ixO_of (show 1<2 by omega)) (bnd rfl (bnd eb rfl)))))
  ·unfold wherryref23_FarOf
   exact bnd (rin23 _ _ _) (cnd_f rfl (bnd (show some (IntKind.i64.wrap (1-0))=some ((1:Nat):Int) by decide) (bnd (ixO_of (show 1<2 by omega)) (bnd rfl (bnd yb rfl)))))
 by_cases h1:i=1
 ·subst h1
  refine ⟨_,fl a,?_,?_⟩
  ·unfold tally_Far
   exact bndL (s:=false) (cnd_t rfl rfl) (cnd_f rfl (bnd (show some (IntKind.i64.wrap (1-1))=some ((0:Nat):Int) by decide) (bnd (ixO_of (show 0<2 by omega)) (bnd rfl (bnd ea rfl)))))
  ·unfold wherryref23_FarOf
   exact bnd (rin23 _ _ _) (cnd_f rfl (bnd (show some (IntKind.i64.wrap (1-1))=some ((0:Nat):Int) by decide) (bnd (ixO_of (show 0<2 by omega)) (bnd rfl (bnd ya rfl)))))
 refine ⟨[],by simp,?_,?_⟩
 ·unfold tally_Far
  have n1:(i != 1)=true:=bne_iff_ne.2 h1
  exact bndL (s:=true) (cnd_t (bne_iff_ne.2 h0) (by rw [n1])) (cnd_t rfl rfl)
 ·unfold wherryref23_FarOf
  refine bnd (rin23 _ _ _) (cnd_t ?_ rfl)
  rw [Bool.not_eq_true',Bool.and_eq_false_iff]
  by_cases h:0≤i
  ·exact .inr (decide_eq_false (by omega))
  ·exact .inl (decide_eq_false (by omega))
theorem tallyExact_true (l:List T_Event) (site:Int) (to_:T_Path) (body:List Int) (recs:List T_Rec) (c:T_Config) (i:Int) (m:T_Mail) (h0:wzL 120 T_Event.wz l) (h2:T_Path.wz to_) (h3:wzL 1 (wfI .u8) body) (h4:wzL 208 T_Rec.wz recs) (h5:T_Config.wz c) (h7:T_Mail.wz m) :
  wherrylaw26_TallyExact l site to_ body recs c i m=some true:=by
 unfold wherrylaw26_TallyExact
 have hz:=evzs h0
 have hh:=heavy26 hz
 obtain ⟨⟨hl2,hds⟩,_,hU,hS,_,_⟩:=h5
 obtain ⟨a,b,hab⟩:∃ a b,c.Domains=[a,b]:=by
  match hq:c.Domains,hl2 with
  | [a,b],_=>exact ⟨a,b,rfl⟩
 have ga:c.Domains.getD 0 (⟨#[]⟩:ByteArray)=a:=by rw [hab]; rfl
 have gb:c.Domains.getD 1 (⟨#[]⟩:ByteArray)=b:=by rw [hab]; rfl
 rw [ga,gb]
 have za:=hds a (by rw [hab]; simp)
 have zb:=hds b (by rw [hab]; simp)
 simp only [wzS,reachBytes] at za zb hU hS
 have hm:=(wz_mail h7).1
 by_cases c1:(decide (100<l.length)||decide (30000<evS l))=true
 ·rw [c1] at hh
  exact bndL (s:=true) (bnd hh (cnd_t rfl rfl)) (cnd_t rfl rfl)
 rw [Bool.not_eq_true] at c1
 rw [c1] at hh
 rw [Bool.or_eq_false_iff,decide_eq_false_iff_not,decide_eq_false_iff_not] at c1
 obtain ⟨a1,a2⟩:=c1
 by_cases c2:3000<body.length
 ·exact bndL (s:=true) (bnd hh (cnd_f rfl (cnd_t (decide_eq_true (by omega)) rfl))) (cnd_t rfl rfl)
 have n2:decide ((3000:Int)<(body.length:Int))=false:=decide_eq_false (by omega)
 obtain ⟨b1,e1,k1⟩:=heavy_rok recs h4
 cases b1 with
 | true=>exact bndL (s:=true) (bnd hh (cnd_f rfl (cnd_f n2 (bnd e1 (cnd_t rfl rfl))))) (cnd_t rfl rfl)
 | false =>
 obtain ⟨hl,hr⟩:=k1 rfl
 obtain ⟨hv,hh2,hlm⟩:=heavy17 [m] (fun x hx=>by rw [List.mem_singleton.1 hx]; exact hm)
 have hh2':wherrylaw17_Heavy [(T_Mail.mk (T_Path.mk m.From.Null m.From.Local m.From.Domain) m.To m.Body m.Quiet m.Helo m.At)]=some hv:=hh2
 cases hv with
 | true=>exact bndL (s:=true) (bnd hh (cnd_f rfl (cnd_f n2 (bnd e1 (cnd_f rfl (bnd hh2' (cnd_t rfl rfl))))))) (cnd_t rfl rfl)
 | false =>
 obtain ⟨_,hlm⟩:=hlm rfl
 have hto:=(hlm m List.mem_cons_self).1
 have hh1:=hcfg a b c.User c.Secret c.Expiry c.Log c.Held (by omega) (by omega) (by omega) (by omega)
 by_cases c3:2000<a.size+b.size+c.User.size+c.Secret.size
 ·rw [decide_eq_true c3] at hh1
  exact bndL (s:=true) (bnd hh (cnd_f rfl (cnd_f n2 (bnd e1 (cnd_f rfl (bnd hh2' (cnd_f rfl (bnd hh1 (cnd_t rfl rfl))))))))) (cnd_t rfl rfl)
 rw [decide_eq_false c3] at hh1
 have hp:=pz_of h2
 have wto:IntKind.i64.wrap ((to_.Local.size:Int)+(to_.Domain.size:Int))=((to_.Local.size+to_.Domain.size:Nat):Int):=by rw [wrap_i64 (by omega) (by omega)]; simp
 by_cases c4:1000<to_.Local.size+to_.Domain.size
 ·have y4:decide ((1000:Int)<((to_.Local.size+to_.Domain.size:Nat):Int))=true:=decide_eq_true (by omega)
  exact bndL (s:=true) (bnd hh (cnd_f rfl (cnd_f n2 (bnd e1 (cnd_f rfl (bnd hh2' (cnd_f rfl (bnd hh1 (cnd_f rfl (bnd (congrArg some wto) (by rw [y4])))))))))))  (cnd_t rfl rfl)
 have n4:decide ((1000:Int)<((to_.Local.size+to_.Domain.size:Nat):Int))=false:=decide_eq_false (by omega)
 have hs:=small26 hz (by omega)
 have hb:=bz_of h3
 have htw:=twins26 (l:=l) (by omega) hz
 have ho1:=of_eq (site:=site) (q:=to_) (l:=l) (by omega) hb hs
 have ho2:=xof_eq (site:=site) (q:=to_) (l:=l) (by omega) hb hs
 have hc1:=count_eq (l:=l) (by omega) hz
 have hc2:=xcount_eq (l:=l) (by omega) hs
 have hf:=sfold_eq recs hr (by omega)
 have hfl:=foldS_le26 recs newSp
 have hi:=foldS_inv recs newSp 0 (by omega) hr inv_new
 rw [Nat.zero_add] at hi
 generalize (foldS newSp recs).2=n at hf hfl hi
 generalize (foldS newSp recs).1=s at hf hi
 have hlen:=hi.len
 have hw1:=wcount_eq (s:=s) (by omega)
 have hw2:=xwaits_eq (s:=s) (by omega)
 have hb1:=bound_eq (s:=s) (by omega) hi.lm
 have hb2:=xbound_eq (s:=s) (by omega) hi.lm
 obtain ⟨v,hvl,f1,f2⟩:=far_same (a:=a) (b:=b) (U:=c.User) (S:=c.Secret) (E:=c.Expiry) (L:=c.Log) (H:=c.Held) (m:=m) i (by omega) (by omega) hto hm
 have hke:=kevents (l:=l) (by omega) (fun e he=>by have:=(hs e he).2; omega)
 have sf:∀ n:Int,(n==n)=true:=fun n=>beq_iff_eq.2 rfl
 refine bndL (s:=false) (bnd hh (cnd_f rfl (cnd_f n2 (bnd e1 (cnd_f rfl (bnd hh2' (cnd_f rfl (bnd hh1 (cnd_f rfl (bnd (congrArg some wto) (by rw [n4]))))))))))) (cnd_f rfl (bnd htw (bnd ho1 (bnd ho2 (bnd hf (bndL (s:=true) ?_ rfl))))))
 exact bnd hc1 (bnd hc2 (cnd_t (sf _) (cnd_t (sf _) (cnd_t (sf _) (bnd hw1 (bnd hw2 (cnd_t (sf _) (bnd f1 (bnd f2 (bnd (kpaths (by omega)) (cnd_t rfl (bnd hb1 (bnd hb2 (cnd_t (sf _) (bnd hke (cnd_t rfl (bnd wakes26 rfl)))))))))))))))))
end Go.Abs.Sh
