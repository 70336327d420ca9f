import Derived.Test.YtglabbpbianmnaaGreatDoorBunN
namespace Go.Abs.Sh
set_option linter.unusedVariables false
set_option linter.unusedSimpArgs false
set_option maxRecDepth 100000
def ptS:(((List T_Path)×(List Int)))→Option (((List T_Path)×(List Int))⊕(((List T_Path)×(List Int))⊕(T_Mail×(List Int)×Bool))):=(fun ((s37,s38):(List T_Path)×(List Int)) =>
  cond ((decide ((s37.length:Int)≤8)))
   ((bundle_parsePath_ro s38 (⟨#[82,67,80,84,32,84,79,58]⟩:ByteArray)).bind fun v4 =>
   cond ((!v4.2.2))
    (some (.inr (.inl (s37,s38))))
    ((appO 40 s37 [v4.1]).bind fun v6 =>
    some (.inl (v6,v4.2.1))))
   (some (.inr (.inl (s37,s38)))))
def psS:(((List Int)×(List T_Mail)))→Option (((List Int)×(List T_Mail))⊕(((List T_Mail))⊕(List T_Mail))):=(fun ((s9,s10):(List Int)×(List T_Mail)) =>
 cond ((decide ((s10.length:Int)≤4)))
  ((bundle_parseMail_ro s9).bind fun v2 =>
  cond ((!v2.2.2))
   (some (.inr (.inl s10)))
   ((appO 120 s10 [(T_Mail.mk (T_Path.mk v2.1.From.Null v2.1.From.Local v2.1.From.Domain) v2.1.To v2.1.Body v2.1.Quiet v2.1.Helo v2.1.At)]).bind fun v4 =>
   some (.inl (v2.2.1,v4))))
  (some (.inr (.inl s10))))
theorem hasPre {p r:List Int} (hl:p.length+r.length≤100000):bytes_HasPrefix (p++r) p=some true:=by
 unfold bytes_HasPrefix
 have e1:sliO (p++r) 0 (p.length:Int)=some p:=by
  have:=sli_nat (p++r) (a:=0) (b:=p.length) (by omega) (by simp)
  rw [show ((0:Nat):Int)=0 from rfl] at this
  rw [this,List.drop_zero,Nat.sub_zero,List.take_left]
 refine bndL (s:=true) (cnd_t (decide_eq_true (by rw [List.length_append]; omega)) (bnd e1 (bnd (x:=true) ?_ rfl))) rfl
 unfold bytes_Equal
 refine bnd rfl (bnd rfl ?_)
 rw [toList_beq,decide_eq_true rfl]
theorem cutPre {p r:List Int} (hl:p.length+r.length≤100000):bytes_CutPrefix_ro (p++r) p=some (r,true):=by
 unfold bytes_CutPrefix_ro
 have e1:sliO (p++r) (p.length:Int) ((p++r).length:Int)=some r:=by
  have:=sli_nat (p++r) (a:=p.length) (b:=(p++r).length) (by simp) (by omega)
  rw [this,List.drop_left,List.length_append,Nat.add_sub_cancel_left,List.take_length]
 exact bnd (hasPre hl) (cnd_f rfl (bnd e1 rfl))
def dataL:List Int:=[68,65,84,65]
theorem r13:∀ x∈rcptW,x≠13:=by decide
theorem m13:∀ x∈mailW,x≠13:=by decide
theorem d13:∀ x∈dataL,x≠13:=by decide
theorem dByt:byt dataL:=by intro x hx; simp only [dataL,List.mem_cons,List.not_mem_nil,or_false] at hx; omega
theorem rByt:sbytes (⟨#[82,67,80,84,32,84,79,58]⟩:ByteArray)=rcptW:=rfl
theorem mByt:sbytes (⟨#[77,65,73,76,32,70,82,79,77,58]⟩:ByteArray)=mailW:=rfl
theorem pt_loop {l:List T_Path} (hp:∀ p∈l,patB p=true) (hl:l.length≤8) {more:List Int} (hm:byt more) (hml:(rcs l).length+more.length≤49000) :
  loopF ptS BIG ([],rcs l++(dataL++13::10::more))=some (.inl (l,dataL++13::10::more)):=by
 have hD:byt (dataL++13::10::more):=byt_app dByt (byt_cons (by omega) (byt_cons (by omega) hm))
 have hDl:(dataL++13::10::more).length=more.length+6:=by simp [dataL]
 have split:∀ i,rcs l=rcs (l.take i)++rcs (l.drop i):=fun i=>by rw [← rcs_app,List.take_append_drop]
 refine loop_from (fun i=>(l.take i,rcs (l.drop i)++(dataL++13::10::more))) l.length BIG (by simp) (by simp only [BIG]; omega) (fun i hi => ?_) ?_
 ·have e:l.drop i=l[i]::l.drop (i+1):=List.drop_eq_getElem_cons hi
  have hlen:=congrArg List.length (split (i+1))
  rw [List.length_append] at hlen
  have htl:(l.take i).length=i:=by simp; omega
  have hpp:=pp_yes (more:=rcs (l.drop (i+1))++(dataL++13::10::more)) rByt r13 (by decide) (hp _ (List.getElem_mem hi)) (byt_app (rcs_byt _) hD) (by rw [List.length_append,hDl]; omega)
  have e2:rcs (l.drop i)++(dataL++13::10::more)=lnL rcptW l[i]++(rcs (l.drop (i+1))++(dataL++13::10::more)):=by rw [e]; simp only [rcs,List.append_assoc]
  rw [e2]
  refine cnd_t (decide_eq_true (by show ((l.take i).length:Int)≤8; omega)) (bnd hpp (cnd_f rfl (bnd (app_of (by simp only [htl,List.length_cons,List.length_nil]; omega) (by simp only [htl,List.length_cons,List.length_nil]; omega)) ?_)))
  rw [List.take_succ_eq_append_getElem hi]
 ·rw [List.drop_length,List.take_length]
  have hno:=pp_no (more:=more) rByt d13 dByt (by decide) hm (by omega) (by decide)
  exact cnd_t (decide_eq_true (by show (l.length:Int)≤8; omega)) (bnd hno (cnd_t rfl rfl))
structure Pm (m:T_Mail):Prop where
 pf:patB m.From=true
 pt:∀ p∈m.To,patB p=true
 tl:m.To.length≤8
 bd:∃ ls,(∀ l∈ls,cln l)∧(∀ l∈ls,byt l)∧m.Body=jn ls
 bl:m.Body.length≤4096
 qu:m.Quiet=false
 he:m.Helo=e0
 ad:m.At=0
theorem pm_mk {m:T_Mail} (h:Pm m):T_Mail.mk m.From m.To m.Body false (⟨#[]⟩:ByteArray) 0=m:=by
 obtain ⟨a,b,c,d,e,f⟩:=m
 have h1:=h.qu; have h2:=h.he; have h3:=h.ad
 simp only at h1 h2 h3
 subst h1 h2 h3
 rfl
theorem pm_yes {m:T_Mail} (h:Pm m) {more:List Int} (hm:byt more) (hl:(cmd m).length+more.length≤45000):bundle_parseMail_ro (cmd m++more)=some (m,more,true):=by
 obtain ⟨ls,c1,c2,c3⟩:=h.bd
 have hbl:=h.bl
 have ht:tot ls≤4096:=by rw [← jn_len,← c3]; exact hbl
 have hs:=stuff_ok c1 c2 (by omega:tot ls<1000000000)
 rw [← c3] at hs
 have e:stfB m.Body=jn (ls.map stf++[[46]]):=by unfold stfB; rw [hs]; rfl
 have hst:byt (stfB m.Body):=by
  rw [e]
  refine jn_byt fun l hl => ?_
  rcases List.mem_append.1 hl with hl | hl
  ·obtain ⟨k,hk,rfl⟩:=List.mem_map.1 hl
   exact stf_byt (c2 k hk)
  ·rw [List.mem_singleton.1 hl]; intro x hx; simp only [List.mem_cons,List.not_mem_nil,or_false] at hx; omega
 have hcl:(cmd m).length=(lnL mailW m.From).length+((rcs m.To).length+(6+(stfB m.Body).length)):=by simp only [cmd,List.length_append,List.length_cons,List.length_nil]
 have hsm:byt (stfB m.Body++more):=byt_app hst hm
 have hsl:(stfB m.Body++more).length=(stfB m.Body).length+more.length:=by rw [List.length_append]
 have hD:byt (dataL++13::10::(stfB m.Body++more)):=byt_app dByt (byt_cons (by omega) (byt_cons (by omega) hsm))
 have e1:cmd m++more=lnL mailW m.From++(rcs m.To++(dataL++13::10::(stfB m.Body++more))):=by simp [cmd,dataL]
 have hpp:=pp_yes (more:=rcs m.To++(dataL++13::10::(stfB m.Body++more))) mByt m13 (by decide) h.pf (byt_app (rcs_byt _) hD) (by simp only [List.length_append,dataL,List.length_cons,List.length_nil]; omega)
 have hlp:=pt_loop h.pt h.tl hsm (by omega)
 have hcp:=cutPre (p:=[68,65,84,65,13,10]) (r:=stfB m.Body++more) (by rw [hsl]; simp only [List.length_cons,List.length_nil]; omega)
 have hlen:(stfB m.Body++more).length=tot (ls.map stf)+3+more.length:=by
  rw [hsl,e,jn_len,tot_app]; rfl
 have hstr:=strip_ok (ls:=ls.map stf) (more:=more) (by
  intro l hl; obtain ⟨k,hk,rfl⟩:=List.mem_map.1 hl; exact stf_cln (c1 k hk)) (by
  intro l hl; obtain ⟨k,hk,rfl⟩:=List.mem_map.1 hl; exact stf_byt (c2 k hk)) (by
  intro l hl; obtain ⟨k,hk,rfl⟩:=List.mem_map.1 hl; exact stf_dot k) hm (by omega)
 rw [← e,map_trm,← c3] at hstr
 have hsli:sliO (stfB m.Body++more) ((tot (ls.map stf)+3:Nat):Int) ((stfB m.Body++more).length:Int)=some more:=by
  have:=sli_nat (stfB m.Body++more) (a:=tot (ls.map stf)+3) (b:=(stfB m.Body++more).length) (by omega) (by omega)
  have hx:(stfB m.Body).length=tot (ls.map stf)+3:=by rw [e,jn_len,tot_app]; rfl
  rw [this,← hx,List.drop_left,hsl,Nat.add_sub_cancel_left,List.take_length]
 rw [e1]
 unfold bundle_parseMail_ro
 refine bnd hpp (cnd_f rfl (bndL hlp (bnd (x:=(stfB m.Body++more,true)) ?_ (cnd_f rfl (bnd hstr (cnd_f rfl (bnd hsli ?_)))))))
 ·have:dataL++13::10::(stfB m.Body++more)=[68,65,84,65,13,10]++(stfB m.Body++more):=rfl
  rw [this]; exact hcp
 ·rw [pm_mk h]
theorem q13:∀ x∈[81,85,73,84],x≠(13:Int):=by decide
theorem qByt:byt [81,85,73,84]:=by intro x hx; simp only [List.mem_cons,List.not_mem_nil,or_false] at hx; omega
theorem ps_yes {l:List T_Mail} (hp:∀ m∈l,Pm m) (hb:∀ m∈l,byt (cmd m)) (hl:l.length≤4) (hcl:(cmds l).length≤40000):bundle_parseMails_ro (comL l)=some l:=by
 have split:∀ i,cmds l=cmds (l.take i)++cmds (l.drop i):=fun i=>by rw [← cmds_app,List.take_append_drop]
 have hcb:∀ (k:List T_Mail),(∀ m∈k,m∈l)→byt (cmds k):=by
  intro k
  induction k with
  | nil=>intro _; exact byt_nil
  | cons m k ih=>intro h; exact byt_app (hb m (h m List.mem_cons_self)) (ih fun x hx=>h x (List.mem_cons_of_mem _ hx))
 have hqb:byt quitL:=by intro x hx; simp only [quitL,List.mem_cons,List.not_mem_nil,or_false] at hx; omega
 unfold bundle_parseMails_ro
 refine bndL (s:=l) (loop_from (f:=psS) (fun i=>(cmds (l.drop i)++quitL,l.take i)) l.length BIG (by simp [comL]) (by simp only [BIG]; omega) (fun i hi => ?_) ?_) rfl
 ·have e:l.drop i=l[i]::l.drop (i+1):=List.drop_eq_getElem_cons hi
  have hmem:∀ m∈l.drop (i+1),m∈l:=fun m hm=>List.mem_of_mem_drop hm
  have hlen:=congrArg List.length (split i)
  rw [e] at hlen
  simp only [cmds,List.length_append] at hlen
  have htl:(l.take i).length=i:=by simp; omega
  have hpm:=pm_yes (hp _ (List.getElem_mem hi)) (more:=cmds (l.drop (i+1))++quitL) (byt_app (hcb _ hmem) hqb) (by simp only [List.length_append,quitL,List.length_cons,List.length_nil]; omega)
  have e2:cmds (l.drop i)++quitL=cmd l[i]++(cmds (l.drop (i+1))++quitL):=by rw [e]; simp only [cmds,List.append_assoc]
  rw [e2]
  refine cnd_t (decide_eq_true (by show ((l.take i).length:Int)≤4; omega)) (bnd hpm (cnd_f rfl (bnd (app_of (by simp only [htl,List.length_cons,List.length_nil]; omega) (by simp only [htl,List.length_cons,List.length_nil]; omega)) ?_)))
  rw [List.take_succ_eq_append_getElem hi]
 ·rw [List.drop_length,List.take_length]
  have hno:=pp_no (more:=[]) mByt q13 qByt (by decide) byt_nil (by decide) (by decide)
  have hpm:bundle_parseMail_ro quitL=some (T_Mail.mk noP [] [] false (⟨#[]⟩:ByteArray) 0,[],false):=by
   unfold bundle_parseMail_ro
   exact bnd (by simpa [quitL] using hno) (cnd_t rfl rfl)
  exact cnd_t (decide_eq_true (by show (l.length:Int)≤4; omega)) (bnd (x:=(T_Mail.mk noP [] [] false (⟨#[]⟩:ByteArray) 0,[],false)) hpm (cnd_t rfl rfl))
end Go.Abs.Sh
