import Derived.Test.YtofbofdggabfiaaGreatDoorTaxC
import Derived.KernelRfl
namespace Go.Abs.Sh
set_option linter.unusedVariables false
set_option linter.unusedSimpArgs false
set_option maxRecDepth 100000
def xoS (l:List T_Event) (site:Int) (to_:T_Path) (body:List Int):((Int×Int×Int))→Option ((Int×Int×Int)⊕((Int×Int)⊕(Int×Int))):=(fun ((s119,s120,s121):Int×Int×Int) =>
 cond ((decide (s121<(l.length:Int))))
  (bindS (S:=Int×Int) (A:=((Int×Int×Int)⊕((Int×Int)⊕(Int×Int))))
   ((ixO s121 l.length).bind fun v2 =>
   (getO l v2).bind fun v3 =>
   cond ((v3.Site != site))
    (some (.inl (s119,s120)))
    (bindS (S:=Int) (A:=((Int×Int)⊕((Int×Int×Int)⊕((Int×Int)⊕(Int×Int)))))
     (bindS (S:=Bool) (A:=(Int⊕((Int×Int)⊕((Int×Int×Int)⊕((Int×Int)⊕(Int×Int))))))
      ((ixO s121 l.length).bind fun v5 =>
      (getO l v5).bind fun v6 =>
      cond ((v6.Kind==1))
       ((ixO s121 l.length).bind fun v7 =>
       (getO l v7).bind fun v8 =>
       (wherrykeep_Path (T_Path.mk v8.To.Null v8.To.Local v8.To.Domain) to_).bind fun v9 =>
       cond (v9)
        ((ixO s121 l.length).bind fun v10 =>
        (getO l v10).bind fun v11 =>
        (wherrykeep_Bytes v11.Body body).bind fun v12 =>
        some (.inl v12))
        (some (.inl false)))
       (some (.inl false)))
      (fun (s215:Bool) =>
       cond (s215)
        ((some (IntKind.i64.wrap (s119+1))).bind fun v18 =>
        some (.inl v18))
        (some (.inl s119))) some)
     (fun (s211:Int) =>
      (ixO s121 l.length).bind fun v28 =>
      (getO l v28).bind fun v29 =>
      cond ((v29.Kind==2))
       ((ixO s121 l.length).bind fun v31 =>
       (getO l v31).bind fun v32 =>
       (wherryref11_ReadReport v32.Body).bind fun v33 =>
       bindS (S:=Bool) (A:=((Int×Int)⊕((Int×Int×Int)⊕((Int×Int)⊕(Int×Int)))))
        (cond (v33.2.2.2)
         ((wherrykeep_Path v33.2.2.1 to_).bind fun v34 =>
         some (.inl v34))
         (some (.inl false)))
        (fun (s221:Bool) =>
         cond (s221)
          ((some (IntKind.i64.wrap (s120+1))).bind fun v40 =>
          some (.inl (s211,v40)))
          (some (.inl (s211,s120)))) some)
       (some (.inl (s211,s120)))) some))
   (fun ((s200,s201):Int×Int) =>
    (some (IntKind.i64.wrap (s121+1))).bind fun v67 =>
    some (.inl (s200,s201,v67))) some)
  (some (.inr (.inl (s119,s120)))))
def xcS (l:List T_Event):((Int×Int))→Option ((Int×Int)⊕((Int)⊕Int)):=(fun ((s138,s139):Int×Int) =>
 cond ((decide (s139<(l.length:Int))))
  (bindS (S:=Int) (A:=((Int×Int)⊕((Int)⊕Int)))
   (bindS (S:=(Bool)) (A:=(Int⊕((Int×Int)⊕((Int)⊕Int))))
    (loopF (S:=(Bool×Int)) (O:=(Bool)⊕(Int⊕((Int×Int)⊕((Int)⊕Int)))) (fun ((s249,s250):Bool×Int) =>
     cond ((decide (s250<s139)))
      (bindS (S:=Bool) (A:=((Bool×Int)⊕((Bool)⊕(Int⊕((Int×Int)⊕((Int)⊕Int))))))
       (cond (s249)
        ((ixO s250 l.length).bind fun v12 =>
        (getO l v12).bind fun v13 =>
        (ixO s139 l.length).bind fun v14 =>
        (getO l v14).bind fun v15 =>
        (wherrykeep_Event ((T_Event.mk v13.Kind v13.Site (T_Path.mk v13.From.Null v13.From.Local v13.From.Domain) (T_Path.mk v13.To.Null v13.To.Local v13.To.Domain) v13.Body)) ((T_Event.mk v15.Kind v15.Site (T_Path.mk v15.From.Null v15.From.Local v15.From.Domain) (T_Path.mk v15.To.Null v15.To.Local v15.To.Domain) v15.Body))).bind fun v16 =>
        some (.inl (!v16)))
        (some (.inl false)))
       (fun (s264:Bool) =>
        (some (IntKind.i64.wrap (s250+1))).bind fun v8 =>
        some (.inl (s264,v8))) some)
      (some (.inr (.inl s249))))
     BIG (true,0))
    (fun (s256:Bool) =>
     cond (s256)
      ((some (IntKind.i64.wrap (s138+1))).bind fun v41 =>
      some (.inl v41))
      (some (.inl s138))) some)
   (fun (s237:Int) =>
    (some (IntKind.i64.wrap (s139+1))).bind fun v74 =>
    some (.inl (s237,v74))) some)
  (some (.inr (.inl s138))))
def xdS (l:List T_Event) (s139:Int):((Bool×Int))→Option ((Bool×Int)⊕((Bool)⊕(Int⊕((Int×Int)⊕((Int)⊕Int))))):=(fun ((s249,s250):Bool×Int) =>
     cond ((decide (s250<s139)))
      (bindS (S:=Bool) (A:=((Bool×Int)⊕((Bool)⊕(Int⊕((Int×Int)⊕((Int)⊕Int))))))
       (cond (s249)
        ((ixO s250 l.length).bind fun v12 =>
        (getO l v12).bind fun v13 =>
        (ixO s139 l.length).bind fun v14 =>
        (getO l v14).bind fun v15 =>
        (wherrykeep_Event ((T_Event.mk v13.Kind v13.Site (T_Path.mk v13.From.Null v13.From.Local v13.From.Domain) (T_Path.mk v13.To.Null v13.To.Local v13.To.Domain) v13.Body)) ((T_Event.mk v15.Kind v15.Site (T_Path.mk v15.From.Null v15.From.Local v15.From.Domain) (T_Path.mk v15.To.Null v15.To.Local v15.To.Domain) v15.Body))).bind fun v16 =>
        some (.inl (!v16)))
        (some (.inl false)))
       (fun (s264:Bool) =>
        (some (IntKind.i64.wrap (s250+1))).bind fun v8 =>
        some (.inl (s264,v8))) some)
      (some (.inr (.inl s249))))
def xwS (s:T_Spool):((Int×Int))→Option ((Int×Int)⊕((Int)⊕Int)):=(fun ((s39,s40):Int×Int) =>
 cond ((decide (s40<(s.Items.length:Int))))
  (bindS (S:=Int) (A:=((Int×Int)⊕((Int)⊕Int)))
   (bindS (S:=Bool) (A:=(Int⊕((Int×Int)⊕((Int)⊕Int))))
    ((ixO s40 s.Items.length).bind fun v2 =>
    (getO s.Items v2).bind fun v3 =>
    cond ((v3.State==1))
     (some (.inl true))
     ((ixO s40 s.Items.length).bind fun v4 =>
     (getO s.Items v4).bind fun v5 =>
     some (.inl (v5.State==2))))
    (fun (s73:Bool) =>
     cond (s73)
      ((some (IntKind.i64.wrap (s39+1))).bind fun v11 =>
      some (.inl v11))
      (some (.inl s39))) some)
   (fun (s69:Int) =>
    (some (IntKind.i64.wrap (s40+1))).bind fun v21 =>
    some (.inl (s69,v21))) some)
  (some (.inr (.inl s39))))
def xbS (s:T_Spool):((Int×Int))→Option ((Int×Int)⊕((Int)⊕Int)):=(fun ((s50,s51):Int×Int) =>
 cond ((decide (s51<(s.Items.length:Int))))
  (bindS (S:=Int) (A:=((Int×Int)⊕((Int)⊕Int)))
   (bindS (S:=Bool) (A:=(Int⊕((Int×Int)⊕((Int)⊕Int))))
    ((ixO s51 s.Items.length).bind fun v2 =>
    (getO s.Items v2).bind fun v3 =>
    cond ((v3.State==1))
     (some (.inl true))
     ((ixO s51 s.Items.length).bind fun v4 =>
     (getO s.Items v4).bind fun v5 =>
     some (.inl (v5.State==2))))
    (fun (s84:Bool) =>
     cond (s84)
      ((some (IntKind.i64.wrap (s50+40))).bind fun v11 =>
      (ixO s51 s.Items.length).bind fun v12 =>
      (getO s.Items v12).bind fun v13 =>
      (some (IntKind.i64.wrap ((v13.Mail.Body.length:Int)+48))).bind fun v14 =>
      (some (IntKind.i64.wrap (v14-1))).bind fun v15 =>
      (quoO .i64 v15 48).bind fun v16 =>
      (some (IntKind.i64.wrap (2 * v16))).bind fun v17 =>
      (some (IntKind.i64.wrap (v11+v17))).bind fun v18 =>
      (ixO s51 s.Items.length).bind fun v19 =>
      (getO s.Items v19).bind fun v20 =>
      (some (IntKind.i64.wrap (8 * (v20.Mail.To.length:Int)))).bind fun v21 =>
      (some (IntKind.i64.wrap (v18+v21))).bind fun v22 =>
      some (.inl v22))
      (some (.inl s50))) some)
   (fun (s80:Int) =>
    (some (IntKind.i64.wrap (s51+1))).bind fun v32 =>
    some (.inl (s80,v32))) some)
  (some (.inr (.inl s50))))
def xyS (m:T_Mail) (domain:ByteArray):(((List T_Path)×Int))→Option (((List T_Path)×Int)⊕(((List T_Path))⊕(List T_Path))):=(fun ((s24,s25):(List T_Path)×Int) =>
 cond ((decide (s25<(m.To.length:Int))))
  (bindS (S:=(List T_Path)) (A:=(((List T_Path)×Int)⊕(((List T_Path))⊕(List T_Path))))
   ((ixO s25 m.To.length).bind fun v2 =>
   (getO m.To v2).bind fun v3 =>
   (wherryref11_At v3 domain).bind fun v4 =>
   cond (v4)
    ((ixO s25 m.To.length).bind fun v6 =>
    (getO m.To v6).bind fun v7 =>
    (appO 40 s24 [v7]).bind fun v8 =>
    some (.inl v8))
    (some (.inl s24)))
   (fun (s42:(List T_Path)) =>
    (some (IntKind.i64.wrap (s25+1))).bind fun v14 =>
    some (.inl (s42,v14))) some)
  (some (.inr (.inl s24))))
theorem kpath (a b:T_Path):wherrykeep_Path a b=some (decide (a=b)):=by
 unfold wherrykeep_Path
 obtain ⟨n,l,d⟩:=a
 obtain ⟨n',l',d'⟩:=b
 by_cases h1:n=n'
 ·subst h1
  by_cases h2:l=l'
  ·subst h2
   refine bndL (s:=decide (d=d')) (bnd rfl (cnd_t (by simp) (cnd_t (by rw [toList_beq]; simp) (by rw [toList_beq])))) ?_
   simp
  ·refine bndL (s:=false) (bnd rfl (cnd_t (by simp) (cnd_f (by rw [toList_beq]; simpa using h2) rfl))) ?_
   rw [decide_eq_false (fun h=>h2 (by injection h))]
 ·refine bndL (s:=false) (bnd rfl (cnd_f (by simpa using h1) rfl)) ?_
  rw [decide_eq_false (fun h=>h1 (by injection h))]
theorem ptB_eq (p q:T_Path):ptB p q=decide (p=q):=by
 obtain ⟨n,l,d⟩:=p
 obtain ⟨n',l',d'⟩:=q
 unfold ptB
 rw [toList_beq,toList_beq]
 by_cases h1:n=n' <;> by_cases h2:l=l' <;> by_cases h3:d=d' <;> simp [h1,h2,h3]
theorem kevent (a b:T_Event) (h:a.Body.length<4294967296):wherrykeep_Event a b=some (decide (a=b)):=by
 unfold wherrykeep_Event
 by_cases h1:a.Kind=b.Kind
 case neg=>exact bndL (s:=false) (cnd_f (beq_eq_false_iff_ne.2 h1) rfl) (by rw [decide_eq_false (fun e=>h1 (by rw [e]))])
 by_cases h2:a.Site=b.Site
 case neg=>exact bndL (s:=false) (cnd_t (beq_iff_eq.2 h1) (cnd_f (beq_eq_false_iff_ne.2 h2) rfl)) (by rw [decide_eq_false (fun e=>h2 (by rw [e]))])
 have k1:=kpath a.From b.From
 have k2:=kpath a.To b.To
 by_cases h3:a.From=b.From
 case neg =>
  rw [decide_eq_false h3] at k1
  exact bndL (s:=false) (cnd_t (beq_iff_eq.2 h1) (cnd_t (beq_iff_eq.2 h2) (bnd k1 (cnd_f rfl rfl)))) (by rw [decide_eq_false (fun e=>h3 (by rw [e]))])
 rw [decide_eq_true h3] at k1
 by_cases h4:a.To=b.To
 case neg =>
  rw [decide_eq_false h4] at k2
  exact bndL (s:=false) (cnd_t (beq_iff_eq.2 h1) (cnd_t (beq_iff_eq.2 h2) (bnd k1 (cnd_t rfl (bnd k2 (cnd_f rfl rfl)))))) (by rw [decide_eq_false (fun e=>h4 (by rw [e]))])
 rw [decide_eq_true h4] at k2
 refine bndL (s:=decide (a.Body=b.Body)) (cnd_t (beq_iff_eq.2 h1) (cnd_t (beq_iff_eq.2 h2) (bnd k1 (cnd_t rfl (bnd k2 (cnd_t rfl (bnd (keepBytes_eq _ _ h) rfl))))))) ?_
 obtain ⟨a1,a2,a3,a4,a5⟩:=a
 obtain ⟨b1,b2,b3,b4,b5⟩:=b
 simp only at h1 h2 h3 h4
 subst h1 h2 h3 h4
 simp
/-! Reports,as the page reads them. -/
theorem xread {b:List Int} (hb:byt b) (hl:b.length≤31000) (q:T_Path):∃ x y z k,wherryref11_ReadReport b=some (x,y,z,k)∧(k&&decide (z=q))=rpB b q:=by
 by_cases hex:∃ site s p,rg site s p=true∧repOf (site,s,p)=b
 ·obtain ⟨x,y,z,hg,he⟩:=hex
  have hr:=read_yes hg (by rw [he]; exact hl)
  have hsm:=rg_sm hg
  have h:=rread_yes hg (by rw [he]; exact hl) (by omega) hsm.2.1 hsm.2.2
  rw [he] at hr h
  have hrp:rpB b q=decide (z=q):=by
   unfold rpB tally_reports
   have:=ptB_eq z q
   unfold ptB at this
   rw [hr,Option.bind_some]
   show ((bindS (S:=Bool) (A:=Bool) (some (.inl _)) _ _).getD false)=_
   rw [this]; rfl
  exact ⟨_,_,_,_,h,by rw [hrp,Bool.true_and]⟩
 ·have hno:∀ site s p,rg site s p=true→repOf (site,s,p)≠b:=fun x y z hg he=>hex ⟨x,y,z,hg,he⟩
  obtain ⟨ls,r,H⟩:=lns_ex b.length b (Nat.le_refl _)
  have hr:=read_no hb hl hno
  have hrp:rpB b q=false:=by
   unfold rpB tally_reports
   rw [hr]; rfl
  rcases rread_core H hb hl with h | ⟨x,y,z,hg,he,_⟩
  ·exact ⟨_,_,_,_,h,by rw [hrp]; rfl⟩
  ·exact absurd he (hno x y z hg)
theorem xof_eq {l:List T_Event} {site:Int} {q:T_Path} {body:List Int} (hl:l.length≤100000) (hb:byt body) (hz:∀ e∈l,byt e.Body∧e.Body.length≤31000) :
  wherryref23_Of l site q body=some (((l.countP (cM site q body):Nat):Int),((l.countP (cB site q):Nat):Int)):=by
 unfold wherryref23_Of
 refine bndL (s:=(((l.countP (cM site q body):Nat):Int),((l.countP (cB site q):Nat):Int))) (loop_from (f:=xoS l site q body) (fun i=>((((l.take i).countP (cM site q body):Nat):Int),(((l.take i).countP (cB site q):Nat):Int),((i:Nat):Int))) l.length BIG rfl (by simp only [BIG]; omega) (fun i hi => ?_) ?_) rfl
 ·have hg:=getO_of hi
  have hix:=ixO_of hi
  have ht:=take_one hi
  have he:=hz _ (List.getElem_mem hi)
  have b1:=List.countP_le_length (p:=cM site q body) (l:=l.take i)
  have b2:=List.countP_le_length (p:=cB site q) (l:=l.take i)
  rw [List.length_take] at b1 b2
  rw [ht,List.countP_append,List.countP_append,List.countP_singleton,List.countP_singleton]
  generalize l[i]=e at hg he
  generalize (l.take i).countP (cM site q body)=A at b1 ⊢
  generalize (l.take i).countP (cB site q)=C at b2 ⊢
  have hw:IntKind.i64.wrap ((i:Int)+1)=((i+1:Nat):Int):=wrap_succ (by omega)
  have wA:IntKind.i64.wrap ((A:Int)+1)=((A+1:Nat):Int):=wrap_succ (by omega)
  have wC:IntKind.i64.wrap ((C:Int)+1)=((C+1:Nat):Int):=wrap_succ (by omega)
  refine cnd_t (decide_eq_true (by omega)) ?_
  by_cases hs:e.Site=site
  case neg =>
   have e1:cM site q body e=false:=by unfold cM; rw [beq_eq_false_iff_ne.2 hs]; rfl
   have e2:cB site q e=false:=by unfold cB; rw [beq_eq_false_iff_ne.2 hs]; rfl
   rw [e1,e2]
   exact bndL (s:=((A:Int),(C:Int))) (bnd hix (bnd hg (cnd_t (bne_iff_ne.2 hs) rfl))) (bnd (congrArg some hw) rfl)
  have hs0:(e.Site != site)=false:=by rw [hs]; exact bne_self_eq_false _
  have hs1:(e.Site==site)=true:=beq_iff_eq.2 hs
  by_cases k1:e.Kind=1
  ·have n2:(e.Kind==2)=false:=beq_eq_false_iff_ne.2 (by omega)
   have e2:cB site q e=false:=by unfold cB; rw [n2]; simp
   have e1:cM site q body e=(decide (e.To=q)&&decide (e.Body=body)):=by unfold cM; rw [hs1,beq_iff_eq.2 k1,ptB_eq]; rfl
   rw [e1,e2]
   have kp:=kpath e.To q
   have kb:=keepBytes_eq e.Body body (by omega)
   by_cases h1:e.To=q
   ·rw [decide_eq_true h1] at kp ⊢
    by_cases h2:e.Body=body
    ·rw [decide_eq_true h2] at kb ⊢
     exact bndL (s:=(((A+1:Nat):Int),(C:Int))) (bnd hix (bnd hg (cnd_f hs0 (bndL (s:=((A+1:Nat):Int)) (bndL (s:=true) (bnd hix (bnd hg (cnd_t (beq_iff_eq.2 k1) (bnd hix (bnd hg (bnd kp (cnd_t rfl (bnd hix (bnd hg (bnd kb rfl)))))))))) (cnd_t rfl (bnd (congrArg some wA) rfl))) (bnd hix (bnd hg (cnd_f n2 rfl))))))) (bnd (congrArg some hw) rfl)
    ·rw [decide_eq_false h2] at kb ⊢
     exact bndL (s:=((A:Int),(C:Int))) (bnd hix (bnd hg (cnd_f hs0 (bndL (s:=(A:Int)) (bndL (s:=false) (bnd hix (bnd hg (cnd_t (beq_iff_eq.2 k1) (bnd hix (bnd hg (bnd kp (cnd_t rfl (bnd hix (bnd hg (bnd kb rfl)))))))))) (cnd_f rfl rfl)) (bnd hix (bnd hg (cnd_f n2 rfl))))))) (bnd (congrArg some hw) rfl)
   ·rw [decide_eq_false h1] at kp ⊢
    exact bndL (s:=((A:Int),(C:Int))) (bnd hix (bnd hg (cnd_f hs0 (bndL (s:=(A:Int)) (bndL (s:=false) (bnd hix (bnd hg (cnd_t (beq_iff_eq.2 k1) (bnd hix (bnd hg (bnd kp (cnd_f rfl rfl))))))) (cnd_f rfl rfl)) (bnd hix (bnd hg (cnd_f n2 rfl))))))) (bnd (congrArg some hw) rfl)
  ·have n1:(e.Kind==1)=false:=beq_eq_false_iff_ne.2 k1
   have e1:cM site q body e=false:=by unfold cM; rw [n1]; simp
   rw [e1]
   by_cases k2:e.Kind=2
   ·have e2:cB site q e=rpB e.Body q:=by unfold cB; rw [hs1,beq_iff_eq.2 k2]; simp
    obtain ⟨x,y,z,k,hr,hk⟩:=xread he.1 he.2 q
    rw [e2,← hk]
    have kp:=kpath z q
    cases k
    ·exact bndL (s:=((A:Int),(C:Int))) (bnd hix (bnd hg (cnd_f hs0 (bndL (s:=(A:Int)) (bndL (s:=false) (bnd hix (bnd hg (cnd_f n1 rfl))) (cnd_f rfl rfl)) (bnd hix (bnd hg (cnd_t (beq_iff_eq.2 k2) (bnd hix (bnd hg (bnd hr (bndL (s:=false) (cnd_f rfl rfl) (cnd_f rfl rfl)))))))))))) (bnd (congrArg some hw) rfl)
    ·by_cases h1:z=q
     ·rw [decide_eq_true h1] at kp ⊢
      exact bndL (s:=((A:Int),((C+1:Nat):Int))) (bnd hix (bnd hg (cnd_f hs0 (bndL (s:=(A:Int)) (bndL (s:=false) (bnd hix (bnd hg (cnd_f n1 rfl))) (cnd_f rfl rfl)) (bnd hix (bnd hg (cnd_t (beq_iff_eq.2 k2) (bnd hix (bnd hg (bnd hr (bndL (s:=true) (cnd_t rfl (bnd kp rfl)) (cnd_t rfl (bnd (congrArg some wC) rfl))))))))))))) (bnd (congrArg some hw) rfl)
     ·rw [decide_eq_false h1] at kp ⊢
      exact bndL (s:=((A:Int),(C:Int))) (bnd hix (bnd hg (cnd_f hs0 (bndL (s:=(A:Int)) (bndL (s:=false) (bnd hix (bnd hg (cnd_f n1 rfl))) (cnd_f rfl rfl)) (bnd hix (bnd hg (cnd_t (beq_iff_eq.2 k2) (bnd hix (bnd hg (bnd hr (bndL (s:=false) (cnd_t rfl (bnd kp rfl)) (cnd_f rfl rfl)))))))))))) (bnd (congrArg some hw) rfl)
   ·have n2:(e.Kind==2)=false:=beq_eq_false_iff_ne.2 k2
    have e2:cB site q e=false:=by unfold cB; rw [n2]; simp
    rw [e2]
    exact bndL (s:=((A:Int),(C:Int))) (bnd hix (bnd hg (cnd_f hs0 (bndL (s:=(A:Int)) (bndL (s:=false) (bnd hix (bnd hg (cnd_f n1 rfl))) (cnd_f rfl rfl)) (bnd hix (bnd hg (cnd_f n2 rfl))))))) (bnd (congrArg some hw) rfl)
 ·rw [List.take_length]
  exact cnd_f (decide_eq_false (by omega)) rfl
/-! Unlike events. -/
theorem cnS_mem:∀ (l:List T_Event) (s:List T_tally_event) (x:T_tally_event),x∈cnS s l↔x∈s∨∃ e∈l,kF e=x
 | [],s,x=>by simp [cnS]
 | e::l,s,x=>by
  have ih:=cnS_mem l (sF s e) x
  have hc:cnS s (e::l)=cnS (sF s e) l:=rfl
  rw [hc,ih]
  unfold sF
  by_cases h:kF e∈s
  ·rw [if_pos h]
   constructor
   ·rintro (h1 | ⟨a,h1,h2⟩)
    ·exact .inl h1
    ·exact .inr ⟨a,List.mem_cons_of_mem _ h1,h2⟩
   ·rintro (h1 | ⟨a,h1,h2⟩)
    ·exact .inl h1
    ·rcases List.mem_cons.1 h1 with rfl | h1
     ·exact .inl (by rw [← h2]; exact h)
     ·exact .inr ⟨a,h1,h2⟩
  ·rw [if_neg h]
   constructor
   ·rintro (h1 | ⟨a,h1,h2⟩)
    ·rcases List.mem_cons.1 h1 with rfl | h1
     ·exact .inr ⟨e,List.mem_cons_self,rfl⟩
     ·exact .inl h1
    ·exact .inr ⟨a,List.mem_cons_of_mem _ h1,h2⟩
   ·rintro (h1 | ⟨a,h1,h2⟩)
    ·exact .inl (List.mem_cons_of_mem _ h1)
    ·rcases List.mem_cons.1 h1 with rfl | h1
     ·exact .inl (by rw [← h2]; exact List.mem_cons_self)
     ·exact .inr ⟨a,h1,h2⟩
theorem kF_inj {a b:T_Event} (ha:byt a.Body) (hb:byt b.Body) (h:kF a=kF b):a=b:=by
 obtain ⟨a1,a2,⟨a3,a4,a5⟩,⟨a6,a7,a8⟩,a9⟩:=a
 obtain ⟨b1,b2,⟨b3,b4,b5⟩,⟨b6,b7,b8⟩,b9⟩:=b
 unfold kF at h
 simp only [T_tally_event.mk.injEq,T_Path.mk.injEq] at h
 obtain ⟨rfl,rfl,⟨rfl,rfl,rfl⟩,⟨rfl,rfl,rfl⟩,h9⟩:=h
 have h9:=congrArg sbytes h9
 rw [sbytes_bstr ha,sbytes_bstr hb] at h9
 simp only at h9
 rw [h9]
theorem xd_loop {l:List T_Event} (hl:l.length≤100000) (hb:∀ e∈l,e.Body.length<4294967296) {i:Nat} (hi:i<l.length):∀ (d k fuel:Nat) (p:Bool),k+d=i→d<fuel →
  loopF (xdS l (i:Int)) fuel (p,(k:Int))=some (.inl (p&&decide (l[i] ∉ (l.take i).drop k)))
 | 0,k,fuel,p,hk,hf=>by
  obtain ⟨fu,rfl⟩:∃ fu,fuel=fu+1:=⟨fuel-1,by omega⟩
  rw [List.drop_eq_nil_of_le (by rw [List.length_take]; omega),decide_eq_true (by simp),Bool.and_true]
  exact loop_exit (cnd_f (decide_eq_false (by omega)) rfl)
 | d+1,k,fuel,p,hk,hf=>by
  obtain ⟨fu,rfl⟩:∃ fu,fuel=fu+1:=⟨fuel-1,by omega⟩
  have hki:k<l.length:=by omega
  have hkt:k<(l.take i).length:=by rw [List.length_take]; omega
  have hd:(l.take i).drop k=l[k]::(l.take i).drop (k+1):=by
   rw [List.drop_eq_getElem_cons hkt,List.getElem_take]
  have hw:IntKind.i64.wrap ((k:Int)+1)=((k+1:Nat):Int):=wrap_succ (by omega)
  cases p
  ·have ih:=xd_loop hl hb hi d (k+1) fu false (by omega) (by omega)
   rw [Bool.false_and] at ih ⊢
   exact (loop_next (cnd_t (decide_eq_true (by omega)) (bndL (s:=false) (cnd_f rfl rfl) (bnd (congrArg some hw) rfl)))).trans ih
  ·have ke:=kevent l[k] l[i] (hb _ (List.getElem_mem hki))
   have ih:=xd_loop hl hb hi d (k+1) fu (!decide (l[k]=l[i])) (by omega) (by omega)
   have hv:(true&&decide (l[i] ∉ (l.take i).drop k))=(!decide (l[k]=l[i])&&decide (l[i] ∉ (l.take i).drop (k+1))):=by
    rw [hd,Bool.true_and]
    by_cases h:l[k]=l[i]
    ·rw [decide_eq_true h,decide_eq_false (fun hn=>hn (by rw [h]; exact List.mem_cons_self))]; rfl
    ·rw [decide_eq_false h,Bool.not_false,Bool.true_and]
     by_cases h2:l[i]∈(l.take i).drop (k+1)
     ·simp [h2]
     ·simp [h2]
      exact fun e=>h e.symm
   rw [hv]
   exact (loop_next (cnd_t (decide_eq_true (by omega)) (bndL (s:=(!decide (l[k]=l[i]))) (cnd_t rfl (bnd (ixO_of hki) (bnd (getO_of hki) (bnd (ixO_of hi) (bnd (getO_of hi) (bnd ke rfl)))))) (bnd (congrArg some hw) rfl)))).trans ih
theorem xcount_eq {l:List T_Event} (hl:l.length≤100000) (hb:∀ e∈l,byt e.Body∧e.Body.length≤31000):wherryref23_Count l=some (((cnS [] l).length:Nat):Int):=by
 unfold wherryref23_Count
 refine bndL (s:=(((cnS [] l).length:Nat):Int)) (loop_from (f:=xcS l) (fun i=>((((cnS [] (l.take i)).length:Nat):Int),((i:Nat):Int))) l.length BIG rfl (by simp only [BIG]; omega) (fun i hi => ?_) ?_) rfl
 ·have ht:=take_one hi
  have hlen:=(cnS_len (l.take i) []).2
  rw [List.length_nil,Nat.zero_add,List.length_take] at hlen
  have hin:=xd_loop hl (fun e he=>by have:=(hb e he).2; omega) hi i 0 BIG true (by omega) (by simp only [BIG]; omega)
  rw [List.drop_zero,Bool.true_and] at hin
  have hw:IntKind.i64.wrap ((i:Int)+1)=((i+1:Nat):Int):=wrap_succ (by omega)
  have hwn:IntKind.i64.wrap ((((cnS [] (l.take i)).length:Nat):Int)+1)=(((cnS [] (l.take i)).length+1:Nat):Int):=wrap_succ (by omega)
  have hstep:cnS [] (l.take (i+1))=sF (cnS [] (l.take i)) l[i]:=by rw [ht,cnS_app]; rfl
  have hmem:kF l[i]∈cnS [] (l.take i)↔l[i]∈l.take i:=by
   rw [cnS_mem]
   constructor
   ·rintro (h | ⟨e,he,hk⟩)
    ·cases h
    ·have:=kF_inj (hb e (List.mem_of_mem_take he)).1 (hb _ (List.getElem_mem hi)).1 hk
     rw [← this]; exact he
   ·intro h; exact .inr ⟨_,h,rfl⟩
  refine cnd_t (decide_eq_true (by omega)) ?_
  by_cases h:l[i]∈l.take i
  ·rw [decide_eq_false (fun hn=>hn h)] at hin
   rw [hstep,sF,if_pos (hmem.2 h)]
   exact bndL (s:=_) (bndL hin (cnd_f rfl rfl)) (bnd (congrArg some hw) rfl)
  ·rw [decide_eq_true h] at hin
   rw [hstep,sF,if_neg (fun hk=>h (hmem.1 hk)),List.length_cons]
   exact bndL (s:=_) (bndL hin (cnd_t rfl (bnd (congrArg some hwn) rfl))) (bnd (congrArg some hw) rfl)
 ·rw [List.take_length]
  exact cnd_f (decide_eq_false (by omega)) rfl
/-! What waits. -/
theorem xwaits_eq {s:T_Spool} (hn:s.Items.length≤1000000):wherryref23_Waits s=some ((cnt s.Items:Nat):Int):=by
 unfold wherryref23_Waits cnt
 refine bndL (s:=((s.Items.countP wfn:Nat):Int)) (loop_from (f:=xwS s) (fun i=>((((s.Items.take i).countP wfn:Nat):Int),((i:Nat):Int))) s.Items.length BIG rfl (by simp only [BIG]; omega) (fun i hi => ?_) ?_) rfl
 ·have hg:=getO_of hi
  have hix:=ixO_of hi
  have ht:=take_one hi
  have hb:=List.countP_le_length (p:=wfn) (l:=s.Items.take i)
  rw [List.length_take] at hb
  rw [ht,List.countP_append,List.countP_singleton]
  generalize (s.Items.take i).countP wfn=B at hb
  generalize s.Items[i]=x at hg
  have hw:IntKind.i64.wrap ((i:Int)+1)=((i+1:Nat):Int):=wrap_succ (by omega)
  have hwb:IntKind.i64.wrap ((B:Int)+1)=((B+1:Nat):Int):=wrap_succ (by omega)
  refine cnd_t (decide_eq_true (by omega)) ?_
  by_cases h1:x.State=1
  ·have hwf:wfn x=true:=by unfold wfn; rw [beq_iff_eq.2 h1]; rfl
   rw [hwf,if_pos rfl]
   exact bndL (s:=((B+1:Nat):Int)) (bndL (s:=true) (bnd hix (bnd hg (cnd_t (beq_iff_eq.2 h1) rfl))) (cnd_t rfl (bnd (congrArg some hwb) rfl))) (bnd (congrArg some hw) rfl)
  ·by_cases h2:x.State=2
   ·have hwf:wfn x=true:=by unfold wfn; rw [beq_iff_eq.2 h2]; simp
    rw [hwf,if_pos rfl]
    exact bndL (s:=((B+1:Nat):Int)) (bndL (s:=true) (bnd hix (bnd hg (cnd_f (beq_eq_false_iff_ne.2 h1) (bnd hix (bnd hg (by rw [beq_iff_eq.2 h2])))))) (cnd_t rfl (bnd (congrArg some hwb) rfl))) (bnd (congrArg some hw) rfl)
   ·have hwf:wfn x=false:=by unfold wfn; rw [beq_eq_false_iff_ne.2 h1,beq_eq_false_iff_ne.2 h2]; rfl
    rw [hwf]
    exact bndL (s:=(B:Int)) (bndL (s:=false) (bnd hix (bnd hg (cnd_f (beq_eq_false_iff_ne.2 h1) (bnd hix (bnd hg (by rw [beq_eq_false_iff_ne.2 h2])))))) (cnd_f rfl rfl)) (bnd (congrArg some hw) rfl)
 ·rw [List.take_length]
  exact cnd_f (decide_eq_false (by omega)) rfl
theorem xbound_eq {s:T_Spool} (hn:s.Items.length≤1000000) (hl:∀ x∈s.Items,LM x.Mail):wherryref23_Bound s=some ((40+bwS s.Items:Nat):Int):=by
 unfold wherryref23_Bound
 have hle:=bwS_le hl
 refine bndL (s:=((40+bwS s.Items:Nat):Int)) (loop_from (f:=xbS s) (fun i=>(((40+bwS (s.Items.take i):Nat):Int),((i:Nat):Int))) s.Items.length BIG rfl (by simp only [BIG]; omega) (fun i hi => ?_) ?_) rfl
 ·have hg:=getO_of hi
  have hix:=ixO_of hi
  have ht:=take_one hi
  have hx:=hl _ (List.getElem_mem hi)
  have hb:bwS (s.Items.take i)≤bwS s.Items:=by
   have:=bwS_app (s.Items.take i) (s.Items.drop i)
   rw [List.take_append_drop] at this
   omega
  have hs:bwS (s.Items.take (i+1))=bwS (s.Items.take i)+bw s.Items[i]:=by rw [ht,bwS_app]; simp [bwS]
  rw [hs]
  generalize bwS (s.Items.take i)=B at hb
  generalize s.Items[i]=x at hg hx
  have h1:=mW_len hx
  have h2:=hx.1
  have hw:IntKind.i64.wrap ((i:Int)+1)=((i+1:Nat):Int):=wrap_succ (by omega)
  refine cnd_t (decide_eq_true (by omega)) ?_
  by_cases hwf:wfn x=true
  ·have hbw:bw x=40+2 * ((x.Mail.Body.length+47) / 48)+8 * x.Mail.To.length:=by unfold bw; rw [if_pos hwf]
   have w0:IntKind.i64.wrap (((40+B:Nat):Int)+40)=((40+B+40:Nat):Int):=by rw [wrap_i64 (by omega) (by omega)]; omega
   have w1:IntKind.i64.wrap ((x.Mail.Body.length:Int)+48)=((x.Mail.Body.length+48:Nat):Int):=by rw [wrap_i64 (by omega) (by omega)]; simp
   have w2:IntKind.i64.wrap (((x.Mail.Body.length+48:Nat):Int)-1)=((x.Mail.Body.length+47:Nat):Int):=by rw [wrap_i64 (by omega) (by omega)]; omega
   have w3:quoO .i64 ((x.Mail.Body.length+47:Nat):Int) 48=some (((x.Mail.Body.length+47) / 48:Nat):Int):=quo_nat _ 48 (by omega) (by omega)
   generalize hq:(x.Mail.Body.length+47) / 48=q at hbw w3
   have hq2:q≤1000:=by omega
   have w4:IntKind.i64.wrap (2 * (q:Int))=((2 * q:Nat):Int):=by rw [wrap_i64 (by omega) (by omega)]; omega
   have w5:IntKind.i64.wrap (((40+B+40:Nat):Int)+((2 * q:Nat):Int))=((40+B+40+2 * q:Nat):Int):=by rw [wrap_i64 (by omega) (by omega)]; omega
   have w6:IntKind.i64.wrap (8 * (x.Mail.To.length:Int))=((8 * x.Mail.To.length:Nat):Int):=by rw [wrap_i64 (by omega) (by omega)]; omega
   have w8:IntKind.i64.wrap (((40+B+40+2 * q:Nat):Int)+((8 * x.Mail.To.length:Nat):Int))=((40+(B+bw x):Nat):Int):=by rw [wrap_i64 (by omega) (by omega)]; omega
   have hin:((ixO (i:Int) s.Items.length).bind fun v2=>(getO s.Items v2).bind fun v3=>cond ((v3.State==1)) (some (.inl true)) ((ixO (i:Int) s.Items.length).bind fun v4=>(getO s.Items v4).bind fun v5=>some (.inl (v5.State==2))):Option (Bool⊕(Int⊕((Int×Int)⊕((Int)⊕Int)))))=some (.inl true):=by
    unfold wfn at hwf
    by_cases h1:x.State=1
    ·exact bnd hix (bnd hg (cnd_t (beq_iff_eq.2 h1) rfl))
    ·rw [beq_eq_false_iff_ne.2 h1,Bool.false_or] at hwf
     exact bnd hix (bnd hg (cnd_f (beq_eq_false_iff_ne.2 h1) (bnd hix (bnd hg (by rw [hwf])))))
   exact bndL (s:=((40+(B+bw x):Nat):Int)) (bndL (s:=true) hin (cnd_t rfl (bnd (congrArg some w0) (bnd hix (bnd hg (bnd (congrArg some w1) (bnd (congrArg some w2) (bnd w3 (bnd (congrArg some w4) (bnd (congrArg some w5) (bnd hix (bnd hg (bnd (congrArg some w6) (bnd (congrArg some w8) rfl)))))))))))))) (bnd (congrArg some hw) rfl)
  ·have hbw:bw x=0:=by unfold bw; rw [if_neg hwf]
   rw [Bool.not_eq_true] at hwf
   rw [hbw]
   unfold wfn at hwf
   rw [Bool.or_eq_false_iff] at hwf
   exact bndL (s:=((40+B:Nat):Int)) (bndL (s:=false) (bnd hix (bnd hg (cnd_f hwf.1 (bnd hix (bnd hg (by rw [hwf.2])))))) (cnd_f rfl rfl)) (bnd (congrArg some hw) rfl)
 ·rw [List.take_length]
  exact cnd_f (decide_eq_false (by omega)) rfl
theorem xway_eq {m:T_Mail} {d:ByteArray} (hd:d.size≤2000) (hl:m.To.length≤40) (hm:mRe m):wherryref23_Way m d=some (m.To.filter fun p=>atpB p d):=by
 unfold wherryref23_Way
 refine bndL (s:=m.To.filter fun p=>atpB p d) (loop_from (f:=xyS m d) (fun i=>((m.To.take i).filter fun p=>atpB p d,((i:Nat):Int))) m.To.length BIG rfl (by simp only [BIG]; omega) (fun i hi => ?_) ?_) rfl
 ·have hg:=getO_of hi
  have ht:=take_one hi
  have hp:=hm.2.2.2.2.2 _ (List.getElem_mem hi)
  have hfl:=List.length_filter_le (fun p=>atpB p d) (m.To.take i)
  rw [List.length_take] at hfl
  rw [ht,List.filter_append]
  generalize m.To[i]=p at hg hp
  have ha:=rat_eq p d (by omega) (by omega)
  have hw:IntKind.i64.wrap ((i:Int)+1)=((i+1:Nat):Int):=wrap_succ (by omega)
  refine cnd_t (decide_eq_true (by omega)) ?_
  by_cases hb:atpB p d=true
  ·rw [hb] at ha
   have hf:[p].filter (fun p=>atpB p d)=[p]:=by simp [hb]
   rw [hf]
   exact bndL (s:=_) (bnd (ixO_of hi) (bnd hg (bnd ha (cnd_t rfl (bnd (ixO_of hi) (bnd hg (bnd (app_of (by simp only [List.length_cons,List.length_nil]; omega) (by simp only [List.length_cons,List.length_nil]; omega)) rfl))))))) (bnd (congrArg some hw) rfl)
  ·have hf:[p].filter (fun p=>atpB p d)=[]:=by simp [hb]
   rw [hf,List.append_nil]
   rw [Bool.not_eq_true] at hb
   rw [hb] at ha
   exact bndL (s:=_) (bnd (ixO_of hi) (bnd hg (bnd ha (cnd_f rfl rfl)))) (bnd (congrArg some hw) rfl)
 ·rw [List.take_length]
  exact cnd_f (decide_eq_false (by omega)) rfl
end Go.Abs.Sh
