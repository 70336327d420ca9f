import Derived.Test.YtofbofdggabfiaaGreatDoorTaxD
import Derived.KernelRfl
namespace Go.Abs.Sh
set_option linter.unusedVariables false
set_option linter.unusedSimpArgs false
set_option maxRecDepth 10000
def hvS (l:List T_Event):((Int×Int))→Option ((Int×Int)⊕((Int)⊕Bool)):=(fun ((s22,s23):Int×Int) =>
  cond ((decide (s23<(l.length:Int))))
   ((ixO s23 l.length).bind fun v3 =>
   (getO l v3).bind fun v4 =>
   (some (IntKind.i64.wrap (s22+(v4.Body.length:Int)))).bind fun v5 =>
   (ixO s23 l.length).bind fun v6 =>
   (getO l v6).bind fun v7 =>
   (some (IntKind.i64.wrap (v5+(v7.From.Local.size:Int)))).bind fun v8 =>
   (ixO s23 l.length).bind fun v9 =>
   (getO l v9).bind fun v10 =>
   (some (IntKind.i64.wrap (v8+(v10.From.Domain.size:Int)))).bind fun v11 =>
   (ixO s23 l.length).bind fun v12 =>
   (getO l v12).bind fun v13 =>
   (some (IntKind.i64.wrap (v11+(v13.To.Local.size:Int)))).bind fun v14 =>
   (ixO s23 l.length).bind fun v15 =>
   (getO l v15).bind fun v16 =>
   (some (IntKind.i64.wrap (v14+(v16.To.Domain.size:Int)))).bind fun v17 =>
   (some (IntKind.i64.wrap (s23+1))).bind fun v18 =>
   some (.inl (v17,v18)))
   (some (.inr (.inl s22))))
def teS (l:List T_Event):(((List T_Event)×Int))→Option (((List T_Event)×Int)⊕(((List T_Event))⊕(List T_Event))):=(fun ((s10,s11):(List T_Event)×Int) =>
 cond ((decide (s11<(l.length:Int))))
  ((ixO s11 l.length).bind fun v2 =>
  (getO l v2).bind fun v3 =>
  (wherrykeep_Twin v3.Body).bind fun v4 =>
  (appO 120 s10 [(T_Event.mk v3.Kind v3.Site (T_Path.mk v3.From.Null v3.From.Local v3.From.Domain) (T_Path.mk v3.To.Null v3.To.Local v3.To.Domain) v4)]).bind fun v5 =>
  (some (IntKind.i64.wrap (s11+1))).bind fun v6 =>
  some (.inl (v5,v6)))
  (some (.inr (.inl s10))))
def toS (l:List T_Event) (site:Int) (to_:T_Path) (body:List Int):((Int×Int×Int))→Option ((Int×Int×Int)⊕((Int×Int)⊕(Int×Int))):=(fun ((s131,s132,s133):Int×Int×Int) =>
 cond ((decide (s133<(l.length:Int))))
  (bindS (S:=Int×Int) (A:=((Int×Int×Int)⊕((Int×Int)⊕(Int×Int))))
   ((ixO s133 l.length).bind fun v2 =>
   (getO l v2).bind fun v3 =>
   bindS (S:=Int×Int) (A:=((Int×Int)⊕((Int×Int×Int)⊕((Int×Int)⊕(Int×Int)))))
    (cond ((v3.Site != site))
     (some (.inl (s131,s132)))
     (bindS (S:=Bool) (A:=((Int×Int)⊕((Int×Int)⊕((Int×Int×Int)⊕((Int×Int)⊕(Int×Int))))))
      (cond ((v3.Kind==1))
       (cond (((v3.To.Null==to_.Null)&&((v3.To.Local.toList==to_.Local.toList)&&((v3.To.Domain.toList==to_.Domain.toList)&&true))))
        ((bytes_Equal v3.Body body).bind fun v5 =>
        some (.inl v5))
        (some (.inl false)))
       (some (.inl false)))
      (fun (s252:Bool) =>
       cond (s252)
        ((some (IntKind.i64.wrap (s131+1))).bind fun v11 =>
        some (.inl (v11,s132)))
        (bindS (S:=Bool) (A:=((Int×Int)⊕((Int×Int)⊕((Int×Int×Int)⊕((Int×Int)⊕(Int×Int))))))
         (cond ((v3.Kind==2))
          ((tally_reports v3.Body to_).bind fun v12 =>
          some (.inl v12))
          (some (.inl false)))
         (fun (s257:Bool) =>
          cond (s257)
           ((some (IntKind.i64.wrap (s132+1))).bind fun v18 =>
           some (.inl (s131,v18)))
           (some (.inl (s131,s132)))) some)) some))
    (fun ((s246,s247):Int×Int) =>
     some (.inl (s246,s247))) some)
   (fun ((s230,s231):Int×Int) =>
    (some (IntKind.i64.wrap (s133+1))).bind fun v67 =>
    some (.inl (s230,s231,v67))) some)
  (some (.inr (.inl (s131,s132)))))
def tcS (l:List T_Event):(((List T_tally_event)×Int))→Option (((List T_tally_event)×Int)⊕(((List T_tally_event))⊕Int)):=(fun ((s10,s11):(List T_tally_event)×Int) =>
 cond ((decide (s11<(l.length:Int))))
  ((ixO s11 l.length).bind fun v2 =>
  (getO l v2).bind fun v3 =>
  (some (bstr v3.Body)).bind fun v4 =>
  (saddO [.i .i64,.i .i64,.b,.s,.s,.b,.s,.s,.s] T_tally_event.enc s10 ((T_tally_event.mk v3.Kind v3.Site (T_Path.mk v3.From.Null v3.From.Local v3.From.Domain) (T_Path.mk v3.To.Null v3.To.Local v3.To.Domain) v4))).bind fun v5 =>
  (some (IntKind.i64.wrap (s11+1))).bind fun v6 =>
  some (.inl (v5,v6)))
  (some (.inr (.inl s10))))
theorem wakes26:wherrylaw26_wakes=some true:=by kernel_rfl
theorem wadd26 {a b:Nat} (h:a+b<9223372036854775808):some (IntKind.i64.wrap ((a:Int)+(b:Int)))=some ((a+b:Nat):Int):=by
 rw [wrap_i64 (by omega) (by omega)]; simp
structure EvZ (e:T_Event):Prop where
 k : -9223372036854775808≤e.Kind∧e.Kind≤9223372036854775807
 s : -9223372036854775808≤e.Site∧e.Site≤9223372036854775807
 f1:e.From.Local.size≤140737488351232
 f2:e.From.Domain.size≤140737488351232
 t1:e.To.Local.size≤140737488351232
 t2:e.To.Domain.size≤140737488351232
 b:byt e.Body
 n:e.Body.length≤140737488351232
theorem evz {e:T_Event} (h:T_Event.wz e):EvZ e:=by
 obtain ⟨h1,h2,h3,h4,h5⟩:=h
 have p3:=pz_of h3
 have p4:=pz_of h4
 refine ⟨?_,?_,p3.1,p3.2,p4.1,p4.2,bz_of h5,by have:=h5.1; simp only [reachBytes] at this; omega⟩
 ·have:=h1; simp only [wfI,Lit.wf] at this; have a1:IntKind.i64.min = -9223372036854775808:=by decide
  have a2:IntKind.i64.max=9223372036854775807:=by decide
  rw [a1,a2] at this; simpa using this
 ·have:=h2; simp only [wfI,Lit.wf] at this; have a1:IntKind.i64.min = -9223372036854775808:=by decide
  have a2:IntKind.i64.max=9223372036854775807:=by decide
  rw [a1,a2] at this; simpa using this
def evW (e:T_Event):Nat:=e.Body.length+e.From.Local.size+e.From.Domain.size+e.To.Local.size+e.To.Domain.size
def evS (l:List T_Event):Nat:=(l.map evW).sum
theorem evS_app (a b:List T_Event):evS (a++b)=evS a+evS b:=by simp [evS]
theorem evS_le {l:List T_Event} (h:∀ e∈l,EvZ e):evS l≤703687441756160 * l.length:=by
 induction l with
 | nil=>exact Nat.le_refl _
 | cons e l ih =>
  have:=ih fun x hx=>h x (List.mem_cons_of_mem _ hx)
  have he:=h e List.mem_cons_self
  have:evW e≤703687441756160:=by have:=he.n; have:=he.f1; have:=he.f2; have:=he.t1; have:=he.t2; unfold evW; omega
  simp only [evS,List.map_cons,List.sum_cons,List.length_cons] at *
  omega
theorem evS_mem {l:List T_Event} {e:T_Event} (h:e∈l):evW e≤evS l:=by
 induction l with
 | nil=>cases h
 | cons x l ih =>
  simp only [evS,List.map_cons,List.sum_cons]
  rcases List.mem_cons.1 h with rfl | h
  ·omega
  ·have:=ih h; simp only [evS] at this; omega
theorem heavy26 {l:List T_Event} (hz:∀ e∈l,EvZ e):wherrylaw26_Heavy l=some (decide (100<l.length)||decide (30000<evS l)):=by
 unfold wherrylaw26_Heavy
 by_cases h1:100<l.length
 ·rw [decide_eq_true h1]
  exact cnd_t (decide_eq_true (by omega)) rfl
 rw [decide_eq_false h1,Bool.false_or]
 have hle:=evS_le hz
 refine cnd_f (decide_eq_false (by omega)) (bndL (s:=((evS l:Nat):Int)) (loop_from (f:=hvS l) (fun i=>((evS (l.take i):Nat),((i:Nat):Int))) l.length BIG rfl (by simp only [BIG]; omega) (fun i hi => ?_) ?_) (congrArg some (decide_eq_decide.2 (by omega))))
 ·have hg:=getO_of hi
  have hx:=ixO_of hi
  have ht:=take_one hi
  have he:=hz _ (List.getElem_mem hi)
  have hb:evS (l.take i)≤evS l:=by
   have:=evS_app (l.take i) (l.drop i)
   rw [List.take_append_drop] at this
   omega
  have hs:evS (l.take (i+1))=evS (l.take i)+evW l[i]:=by rw [ht,evS_app]; simp [evS]
  rw [hs]
  generalize l[i]=e at hg he
  have:=he.n; have:=he.f1; have:=he.f2; have:=he.t1; have:=he.t2
  have hE:evS (l.take i)+evW e=evS (l.take i)+e.Body.length+e.From.Local.size+e.From.Domain.size+e.To.Local.size+e.To.Domain.size:=by unfold evW; omega
  rw [hE]
  exact cnd_t (decide_eq_true (by omega)) (bnd hx (bnd hg (bnd (wadd26 (by omega)) (bnd hx (bnd hg (bnd (wadd26 (by omega)) (bnd hx (bnd hg (bnd (wadd26 (by omega)) (bnd hx (bnd hg (bnd (wadd26 (by omega)) (bnd hx (bnd hg (bnd (wadd26 (by omega)) (bnd (congrArg some (wrap_succ (n:=i) (by omega))) rfl))))))))))))))))
 ·rw [List.take_length]
  exact cnd_f (decide_eq_false (by omega)) rfl
theorem twinE (l:List Int) (h:l.length≤140737488355328):wherrykeep_Twin l=some l:=by
 unfold wherrykeep_Twin
 exact bnd (app_of (by simp only [List.length_nil]; omega) (by rw [List.length_nil]; omega)) rfl
theorem twins26 {l:List T_Event} (hl:l.length≤1000) (hz:∀ e∈l,EvZ e):wherrykeep_TwinEvents l=some l:=by
 unfold wherrykeep_TwinEvents
 refine bndL (s:=l) (loop_from (f:=teS l) (fun i=>(l.take i,((i:Nat):Int))) l.length BIG rfl (by simp only [BIG]; omega) (fun i hi => ?_) ?_) rfl
 ·have hg:=getO_of hi
  have ht:=take_one hi
  have he:=hz _ (List.getElem_mem hi)
  rw [ht]
  generalize l[i]=e at hg he
  have:=he.n
  refine cnd_t (decide_eq_true (by omega)) (bnd (ixO_of hi) (bnd hg (bnd (twinE e.Body (by omega)) (bnd (app_of (by simp only [List.length_take,List.length_cons,List.length_nil]; omega) (by simp only [List.length_take,List.length_cons,List.length_nil]; omega)) (bnd (congrArg some (wrap_succ (n:=i) (by omega))) rfl)))))
 ·rw [List.take_length]
  exact cnd_f (decide_eq_false (by omega)) rfl
/-! How many of each. -/
def ptB (p q:T_Path):Bool:=((p.Null==q.Null)&&((p.Local.toList==q.Local.toList)&&((p.Domain.toList==q.Domain.toList)&&true)))
def rpB (b:List Int) (q:T_Path):Bool:=(tally_reports b q).getD false
theorem reports_eq {b:List Int} (hb:byt b) (hl:b.length≤31000) (q:T_Path):tally_reports b q=some (rpB b q):=by
 obtain ⟨ls,r,H⟩:=lns_ex b.length b (Nat.le_refl _)
 have h:=read_core H hb hl
 have:∃ v,tally_reports b q=some v:=by
  unfold tally_reports
  split at h
  ·exact ⟨_,bnd h (bndL (cnd_t rfl rfl) rfl)⟩
  ·exact ⟨_,bnd h (bndL (cnd_f rfl rfl) rfl)⟩
 obtain ⟨v,hv⟩:=this
 unfold rpB
 rw [hv]; rfl
def cM (site:Int) (q:T_Path) (body:List Int) (e:T_Event):Bool:=(e.Site==site)&&((e.Kind==1)&&(ptB e.To q&&decide (e.Body=body)))
def cB (site:Int) (q:T_Path) (e:T_Event):Bool:=(e.Site==site)&&((e.Kind==2)&&rpB e.Body q)
theorem cMB {site:Int} {q:T_Path} {body:List Int} {e:T_Event} (h:cM site q body e=true):cB site q e=false:=by
 simp only [cM,cB,Bool.and_eq_true,beq_iff_eq] at *
 simp [h.2.1]
theorem of_eq {l:List T_Event} {site:Int} {q:T_Path} {body:List Int} (hl:l.length≤100000) (hb:byt body) (hz:∀ e∈l,byt e.Body∧e.Body.length≤31000) :
  tally_Of l site q body=some (((l.countP (cM site q body):Nat):Int),((l.countP (cB site q):Nat):Int)):=by
 unfold tally_Of
 refine bndL (s:=(((l.countP (cM site q body):Nat):Int),((l.countP (cB site q):Nat):Int))) (loop_from (f:=toS l site q body) (fun i=>((((l.take i).countP (cM site q body):Nat):Int),(((l.take i).countP (cB site q):Nat):Int),((i:Nat):Int))) l.length BIG rfl (by simp only [BIG]; omega) (fun i hi => ?_) ?_) rfl
 ·have hg:=getO_of hi
  have ht:=take_one hi
  have he:=hz _ (List.getElem_mem hi)
  have b1:=List.countP_le_length (p:=cM site q body) (l:=l.take i)
  have b2:=List.countP_le_length (p:=cB site q) (l:=l.take i)
  rw [List.length_take] at b1 b2
  rw [ht,List.countP_append,List.countP_append,List.countP_singleton,List.countP_singleton]
  generalize l[i]=e at hg he
  generalize (l.take i).countP (cM site q body)=m at b1
  generalize (l.take i).countP (cB site q)=n at b2
  have hw:IntKind.i64.wrap ((i:Int)+1)=((i+1:Nat):Int):=wrap_succ (by omega)
  have hwm:IntKind.i64.wrap ((m:Int)+1)=((m+1:Nat):Int):=wrap_succ (by omega)
  have hwn:IntKind.i64.wrap ((n:Int)+1)=((n+1:Nat):Int):=wrap_succ (by omega)
  refine cnd_t (decide_eq_true (by omega)) ?_
  by_cases hs:e.Site=site
  case neg =>
   have e1:cM site q body e=false:=by simp [cM,hs]
   have e2:cB site q e=false:=by simp [cB,hs]
   rw [e1,e2]
   exact bndL (s:=((m:Int),(n:Int))) (bnd (ixO_of hi) (bnd hg (bndL (s:=((m:Int),(n:Int))) (cnd_t (bne_iff_ne.2 hs) rfl) rfl))) (bnd (congrArg some hw) rfl)
  have hs':(e.Site != site)=false:=by rw [hs]; exact bne_self_eq_false _
  have mid:(bindS (S:=Bool) (A:=((Int×Int)⊕((Int×Int)⊕((Int×Int×Int)⊕((Int×Int)⊕(Int×Int))))))
        (cond ((e.Kind==1))
         (cond (((e.To.Null==q.Null)&&((e.To.Local.toList==q.Local.toList)&&((e.To.Domain.toList==q.Domain.toList)&&true))))
          ((bytes_Equal e.Body body).bind fun v5 =>
          some (.inl v5))
          (some (.inl false)))
         (some (.inl false))) (fun s=>some (.inl (if s then ((0:Int),(0:Int)) else (0,0)))) some)=some (.inl (0,0)):=by
   by_cases hk:e.Kind=1
   ·by_cases hp:ptB e.To q=true
    ·exact bndL (s:=decide (e.Body=body)) (cnd_t (beq_iff_eq.2 hk) (cnd_t hp (bnd (equal_eq he.1 hb) rfl))) (by split <;> rfl)
    ·exact bndL (s:=false) (cnd_t (beq_iff_eq.2 hk) (cnd_f (Bool.not_eq_true _ ▸ hp) rfl)) rfl
   ·exact bndL (s:=false) (cnd_f (beq_eq_false_iff_ne.2 hk) rfl) rfl
  clear mid
  have first:(cond ((e.Kind==1))
         (cond (((e.To.Null==q.Null)&&((e.To.Local.toList==q.Local.toList)&&((e.To.Domain.toList==q.Domain.toList)&&true))))
          ((bytes_Equal e.Body body).bind fun v5 =>
          some (.inl v5))
          (some (.inl false)))
         (some (.inl false)):Option (Bool⊕((Int×Int)⊕((Int×Int)⊕((Int×Int×Int)⊕((Int×Int)⊕(Int×Int)))))))=some (.inl (cM site q body e)):=by
   unfold cM
   rw [hs,beq_self_eq_true,Bool.true_and]
   by_cases hk:e.Kind=1
   ·by_cases hp:ptB e.To q=true
    ·exact cnd_t (beq_iff_eq.2 hk) (cnd_t hp (bnd (equal_eq he.1 hb) (inl_of (by rw [hk,hp]; rfl))))
    ·rw [Bool.not_eq_true] at hp
     exact cnd_t (beq_iff_eq.2 hk) (cnd_f hp (inl_of (by rw [hk,hp]; rfl)))
   ·exact cnd_f (beq_eq_false_iff_ne.2 hk) (inl_of (by rw [beq_eq_false_iff_ne.2 hk]; rfl))
  have second:(cond ((e.Kind==2))
            ((tally_reports e.Body q).bind fun v12 =>
            some (.inl v12))
            (some (.inl false)):Option (Bool⊕((Int×Int)⊕((Int×Int)⊕((Int×Int×Int)⊕((Int×Int)⊕(Int×Int)))))))=some (.inl (cB site q e)):=by
   unfold cB
   rw [hs,beq_self_eq_true,Bool.true_and]
   by_cases hk:e.Kind=2
   ·exact cnd_t (beq_iff_eq.2 hk) (bnd (reports_eq he.1 he.2 q) (inl_of (by rw [hk]; rfl)))
   ·exact cnd_f (beq_eq_false_iff_ne.2 hk) (inl_of (by rw [beq_eq_false_iff_ne.2 hk]; rfl))
  by_cases hm:cM site q body e=true
  ·rw [hm,cMB hm]
   rw [hm] at first
   exact bndL (s:=(((m+1:Nat):Int),(n:Int))) (bnd (ixO_of hi) (bnd hg (bndL (s:=(((m+1:Nat):Int),(n:Int))) (cnd_f hs' (bndL (s:=true) first (cnd_t rfl (bnd (congrArg some hwm) rfl)))) rfl))) (bnd (congrArg some hw) rfl)
  rw [Bool.not_eq_true] at hm
  rw [hm]
  rw [hm] at first
  by_cases hbb:cB site q e=true
  ·rw [hbb]
   rw [hbb] at second
   exact bndL (s:=((m:Int),((n+1:Nat):Int))) (bnd (ixO_of hi) (bnd hg (bndL (s:=((m:Int),((n+1:Nat):Int))) (cnd_f hs' (bndL (s:=false) first (cnd_f rfl (bndL (s:=true) second (cnd_t rfl (bnd (congrArg some hwn) rfl)))))) rfl))) (bnd (congrArg some hw) rfl)
  rw [Bool.not_eq_true] at hbb
  rw [hbb]
  rw [hbb] at second
  exact bndL (s:=((m:Int),(n:Int))) (bnd (ixO_of hi) (bnd hg (bndL (s:=((m:Int),(n:Int))) (cnd_f hs' (bndL (s:=false) first (cnd_f rfl (bndL (s:=false) second (cnd_f rfl rfl))))) rfl))) (bnd (congrArg some hw) rfl)
 ·rw [List.take_length]
  exact cnd_f (decide_eq_false (by omega)) rfl
/-! The unlike ones. -/
def kF (e:T_Event):T_tally_event:=T_tally_event.mk e.Kind e.Site (T_Path.mk e.From.Null e.From.Local e.From.Domain) (T_Path.mk e.To.Null e.To.Local e.To.Domain) (bstr e.Body)
def sF (s:List T_tally_event) (e:T_Event):List T_tally_event:=if kF e∈s then s else kF e::s
def cnS (s:List T_tally_event) (l:List T_Event):List T_tally_event:=l.foldl sF s
theorem sF_len (s:List T_tally_event) (e:T_Event):s.length≤(sF s e).length∧(sF s e).length≤s.length+1:=by
 unfold sF; split <;> simp
theorem cnS_len:∀ (l:List T_Event) (s:List T_tally_event),s.length≤(cnS s l).length∧(cnS s l).length≤s.length+l.length
 | [],s=>⟨Nat.le_refl _,Nat.le_refl _⟩
 | e::l,s=>by
  have h1:=cnS_len l (sF s e)
  have h2:=sF_len s e
  show s.length≤(cnS (sF s e) l).length∧_
  have:cnS s (e::l)=cnS (sF s e) l:=rfl
  rw [this,List.length_cons]
  omega
theorem cnS_app (s:List T_tally_event) (a b:List T_Event):cnS s (a++b)=cnS (cnS s a) b:=by simp [cnS]
theorem key_ok {e:T_Event} (h:EvZ e):cksOK [.i .i64,.i .i64,.b,.s,.s,.b,.s,.s,.s] (kF e).enc=true:=by
 have hs:∀ n:Nat,n≤140737488351232→Nat.ble n 140737488355328=true:=fun n hn=>Nat.ble_eq_true_of_le (by omega)
 simp only [kF,T_tally_event.enc,cksOK,ckOK,Bool.and_true,Bool.and_eq_true,decide_true,Bool.true_and]
 refine ⟨i64_wf h.k.1 h.k.2,i64_wf h.s.1 h.s.2,hs _ h.f1,hs _ h.f2,hs _ h.t1,hs _ h.t2,hs _ ?_⟩
 rw [bstr_size]; exact h.n
theorem count_eq {l:List T_Event} (hl:l.length≤100000) (hz:∀ e∈l,EvZ e):tally_Count l=some (((cnS [] l).length:Nat):Int):=by
 unfold tally_Count
 refine bndL (s:=cnS [] l) (loop_from (f:=tcS l) (fun i=>(cnS [] (l.take i),((i:Nat):Int))) l.length BIG rfl (by simp only [BIG]; omega) (fun i hi => ?_) ?_) rfl
 ·have hg:=getO_of hi
  have ht:=take_one hi
  have he:=hz _ (List.getElem_mem hi)
  have hn:=(cnS_len (l.take i) []).2
  rw [ht,cnS_app]
  generalize l[i]=e at hg he
  have hsa:saddO [.i .i64,.i .i64,.b,.s,.s,.b,.s,.s,.s] T_tally_event.enc (cnS [] (l.take i)) (kF e)=some (cnS (cnS [] (l.take i)) [e]):=by
   unfold saddO
   rw [if_pos (by
    rw [key_ok he,Bool.true_and]
    rw [List.length_take,List.length_nil] at hn
    rw [Nat.blt_eq]; omega)]
   rfl
  exact cnd_t (decide_eq_true (by omega)) (bnd (ixO_of hi) (bnd hg (bnd rfl (bnd hsa (bnd (congrArg some (wrap_succ (n:=i) (by omega))) rfl)))))
 ·rw [List.take_length]
  exact cnd_f (decide_eq_false (by omega)) rfl
theorem evzs {l:List T_Event} (h:wzL 120 T_Event.wz l):∀ e∈l,EvZ e:=fun e he=>evz (h.2 e he)
theorem small26 {l:List T_Event} (h:∀ e∈l,EvZ e) (hs:evS l≤30000):∀ e∈l,byt e.Body∧e.Body.length≤31000:=fun e he =>
 ⟨(h e he).b,by have:=evS_mem he; have:e.Body.length≤evW e:=(by unfold evW; omega); omega⟩
end Go.Abs.Sh
