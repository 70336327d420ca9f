import Derived.Test.YtglabbpbianmnaaGreatDoorBunP
namespace Go.Abs.Sh
set_option linter.unusedVariables false
set_option linter.unusedSimpArgs false
set_option maxRecDepth 100000
theorem keepPath (a b:T_Path):wherrykeep_Path a b=some (decide (a=b)):=by
 unfold wherrykeep_Path
 refine bndL (s:=decide (a=b)) (bnd rfl ?_) rfl
 rw [toList_beq,toList_beq]
 obtain ⟨an,al,ad⟩:=a
 obtain ⟨bn,bl,bd⟩:=b
 cases h:an==bn
 ·have:an≠bn:=by simpa using h
  refine cnd_f rfl ?_
  simp [this]
 ·have:an=bn:=by simpa using h
  refine cnd_t rfl ?_
  subst this
  by_cases h2:al=bl
  ·rw [decide_eq_true h2]
   subst h2
   refine cnd_t rfl ?_
   simp
  ·rw [decide_eq_false h2]
   refine cnd_f rfl ?_
   simp [h2]
def paS (a b:List T_Path):((Int))→Option ((Int)⊕((Unit)⊕Bool)):=(fun (s13:Int) =>
  cond ((decide (s13<(a.length:Int))))
   ((ixO s13 a.length).bind fun v3 =>
   (getO a v3).bind fun v4 =>
   (ixO s13 b.length).bind fun v5 =>
   (getO b v5).bind fun v6 =>
   (wherrykeep_Path v4 v6).bind fun v7 =>
   cond ((!v7))
    (some (.inr (.inr (false))))
    ((some (IntKind.i64.wrap (s13+1))).bind fun v9 =>
    some (.inl v9)))
   (some (.inr (.inl ()))))
/-! What is kept apart,told as an equation. -/
theorem keepPaths_eq (a b:List T_Path) (hl:a.length<4294967296):wherrykeep_Paths a b=some (decide (a=b)):=by
 unfold wherrykeep_Paths
 by_cases hlen:a.length=b.length
 ·refine cnd_f (by simp [hlen]) ?_
  have h:=loop_all (R:=Bool) (f:=paS a b) (fun i=>decide (a[i]? = b[i]?)) a.length false (fuel:=BIG) (by simp only [BIG]; omega) (fun i hi hp => ?_) (fun i hi hp => ?_) (cnd_f (decide_eq_false (by omega)) rfl)
  ·by_cases he:a=b
   ·rw [decide_eq_true he]
    rw [if_pos (fun i _=>by rw [he]; simp)] at h
    exact bndL h rfl
   ·rw [decide_eq_false he]
    rw [if_neg (fun hh=>he (List.ext_getElem? fun i=>by
     by_cases hi:i<a.length
     ·exact of_decide_eq_true (hh i hi)
     ·rw [List.getElem?_eq_none (by omega),List.getElem?_eq_none (by omega)]))] at h
    exact bndR h rfl
  ·have hb:i<b.length:=by omega
   have e:=of_decide_eq_true hp
   rw [List.getElem?_eq_getElem hi,List.getElem?_eq_getElem hb] at e
   exact cnd_t (decide_eq_true (by omega)) (bnd (ixO_of hi) (bnd (by simp [getO,hi]:getO a i=some a[i]) (bnd (ixO_of hb) (bnd (by simp [getO,hb]:getO b i=some b[i]) (bnd (keepPath _ _) (cnd_f (by rw [decide_eq_true (Option.some.inj e)]; rfl) (bnd (congrArg some (wrap_succ (n:=i) (by omega))) rfl)))))))
  ·have hb:i<b.length:=by omega
   have e:=of_decide_eq_false hp
   rw [List.getElem?_eq_getElem hi,List.getElem?_eq_getElem hb] at e
   exact cnd_t (decide_eq_true (by omega)) (bnd (ixO_of hi) (bnd (by simp [getO,hi]:getO a i=some a[i]) (bnd (ixO_of hb) (bnd (by simp [getO,hb]:getO b i=some b[i]) (bnd (keepPath _ _) (cnd_t (by rw [decide_eq_false (fun h=>e (congrArg some h))]; rfl) rfl))))))
 ·rw [decide_eq_false (fun h=>hlen (by rw [h]))]
  exact cnd_t (by simp only [bne_iff_ne,ne_eq]; omega) rfl
theorem keepMail_eq (a b:T_Mail) (h1:a.To.length<4294967296) (h2:a.Body.length<4294967296):wherrykeep_Mail a b=some (decide (a=b)):=by
 unfold wherrykeep_Mail
 obtain ⟨af,at_,ab,aq,ah,aa⟩:=a
 obtain ⟨bf,bt,bb,bq,bh,ba⟩:=b
 by_cases e1:af=bf
 ·by_cases e2:at_=bt
  ·by_cases e3:ab=bb
   ·by_cases e4:aq=bq
    ·by_cases e5:ah=bh
     ·by_cases e6:aa=ba
      ·subst e1; subst e2; subst e3; subst e4; subst e5; subst e6
       rw [decide_eq_true rfl]
       exact bndL (s:=true) (bnd (keepPath _ _) (cnd_t (decide_eq_true rfl) (bnd (keepPaths_eq _ _ h1) (cnd_t (decide_eq_true rfl) (bnd (keepBytes_eq _ _ h2) (cnd_t (decide_eq_true rfl) (bnd rfl (cnd_t (beq_self_eq_true _) (cnd_t (by rw [toList_beq]; exact decide_eq_true rfl) (inl_of (beq_self_eq_true _))))))))))) rfl
      ·rw [decide_eq_false (fun h=>e6 (by injection h))]
       exact bndL (s:=false) (bnd (keepPath _ _) (cnd_t (decide_eq_true e1) (bnd (keepPaths_eq _ _ h1) (cnd_t (decide_eq_true e2) (bnd (keepBytes_eq _ _ h2) (cnd_t (decide_eq_true e3) (bnd rfl (cnd_t (beq_iff_eq.2 e4) (cnd_t (by rw [toList_beq]; exact decide_eq_true e5) (inl_of (beq_eq_false_iff_ne.2 e6)))))))))))  rfl
     ·rw [decide_eq_false (fun h=>e5 (by injection h))]
      exact bndL (s:=false) (bnd (keepPath _ _) (cnd_t (decide_eq_true e1) (bnd (keepPaths_eq _ _ h1) (cnd_t (decide_eq_true e2) (bnd (keepBytes_eq _ _ h2) (cnd_t (decide_eq_true e3) (bnd rfl (cnd_t (beq_iff_eq.2 e4) (cnd_f (by rw [toList_beq]; exact decide_eq_false e5) rfl))))))))) rfl
    ·rw [decide_eq_false (fun h=>e4 (by injection h))]
     exact bndL (s:=false) (bnd (keepPath _ _) (cnd_t (decide_eq_true e1) (bnd (keepPaths_eq _ _ h1) (cnd_t (decide_eq_true e2) (bnd (keepBytes_eq _ _ h2) (cnd_t (decide_eq_true e3) (bnd rfl (cnd_f (beq_eq_false_iff_ne.2 e4) rfl)))))))) rfl
   ·rw [decide_eq_false (fun h=>e3 (by injection h))]
    exact bndL (s:=false) (bnd (keepPath _ _) (cnd_t (decide_eq_true e1) (bnd (keepPaths_eq _ _ h1) (cnd_t (decide_eq_true e2) (bnd (keepBytes_eq _ _ h2) (cnd_f (decide_eq_false e3) rfl)))))) rfl
  ·rw [decide_eq_false (fun h=>e2 (by injection h))]
   exact bndL (s:=false) (bnd (keepPath _ _) (cnd_t (decide_eq_true e1) (bnd (keepPaths_eq _ _ h1) (cnd_f (decide_eq_false e2) rfl)))) rfl
 ·rw [decide_eq_false (fun h=>e1 (by injection h))]
  exact bndL (s:=false) (bnd (keepPath _ _) (cnd_f (decide_eq_false e1) rfl)) rfl
theorem bequal (a b:List Int):bytes_Equal a b=some (decide (bstr a=bstr b)):=by
 unfold bytes_Equal
 exact bnd rfl (bnd rfl (by rw [toList_beq]))
theorem keepB_refl (b:T_Bundle) (hl:b.Mails.length<1000) (hm:∀ m∈b.Mails,m.To.length<4294967296∧m.Body.length<4294967296):wherrykeep_Bundle b b=some true:=by
 unfold wherrykeep_Bundle
 have h1:(cond ((b.Origin != b.Origin)) (some (.inl true)) (cond ((b.Number != b.Number)) (some (.inl true)) (some (.inl (((b.Mails.length:Int) != (b.Mails.length:Int)))))):Option (Bool⊕Bool))=some (.inl false):=by
  simp only [bne_self_eq_false]; rfl
 refine bndL h1 (cnd_f rfl (bndL (s:=()) (loop_from (fun i=>((i:Nat):Int)) b.Mails.length BIG rfl (by simp only [BIG]; omega) (fun i hi => ?_) (cnd_f (decide_eq_false (by omega)) rfl)) rfl))
 have hg:=getO_of hi
 obtain ⟨t1,t2⟩:=hm _ (List.getElem_mem hi)
 have hk:=keepMail_eq b.Mails[i] b.Mails[i] t1 t2
 rw [decide_eq_true rfl] at hk
 exact cnd_t (decide_eq_true (by omega)) (bnd (ixO_of hi) (bnd hg (bnd (ixO_of hi) (bnd hg (bnd hk (cnd_f rfl (bnd (congrArg some (wrap_succ (n:=i) (by omega))) rfl)))))))
theorem lm_len {m:T_Mail} (h:LM m):m.To.length<4294967296∧m.Body.length<4294967296:=by
 obtain ⟨h1,h2⟩:=h
 simp only [mW] at h2
 exact ⟨by omega,by omega⟩
theorem chk_pm {b:T_Bundle} (hm:∀ m∈b.Mails,LM m∧byt m.Body) (hl:b.Mails.length≤20) (hc:bundle_Check b=some 0):∀ m∈b.Mails,Pm m:=by
 have h:=chk_exact hm hl
 rw [hc] at h
 have hb:bunB b=true:=by
  cases hh:bunB b with
  | true=>rfl
  | false=>rw [hh] at h; exact absurd (Option.some.inj h) (by decide)
 unfold bunB at hb
 simp only [Bool.and_eq_true,List.all_eq_true] at hb
 exact fun m hmm=>(pm_of (hm m hmm).2 (hb.2.2 m hmm)).1
theorem read_whole {b:T_Bundle} (hm:∀ m∈b.Mails,LM m∧byt m.Body) (hc:bundle_Check b=some 0) (ho:b.Origin=0∨b.Origin=1) (hn1:1≤b.Number) (hn2:b.Number≤65535) (hl4:b.Mails.length≤4) (hv:∀ m∈b.Mails,Vm m) (hw:(wholeL b).length≤4096) (hby:bundle_Bytes b=some (wholeL b,0)) :
  bundle_Read_ro (wholeL b)=some (b,0):=by
 obtain ⟨f1,f2,f3,f4,f5,f6,f7⟩:=whole_facts ho hn1 hn2 hl4 hv hw
 have hc6:(comL b.Mails).length=(cmds b.Mails).length+6:=by simp [comL,quitL]
 have hps:=ps_yes (chk_pm hm (by omega) hc) (fun m hm=>cmd_byt (hv m hm)) hl4 (by omega)
 have hq:=bequal (wholeL b) (wholeL b)
 rw [decide_eq_true rfl] at hq
 have hcut:=cut_line f1 f2 f3 (by omega)
 have hph:=parseHeader_eq f1 (by omega)
 rw [f7] at hph
 have hsum:=sumL_eq f2 (by omega)
 unfold bundle_Read_ro
 refine bnd (x:=(bunW++nmsL (numsL b),comL b.Mails,true)) hcut (bnd rfl (bnd hph (bndL (s:=false) (cnd_f rfl (cnd_f rfl (inl_of ?_))) (cnd_f rfl (bnd hsum (cnd_f ?_ (bnd hps (bnd hby (bndL (s:=false) (cnd_f rfl (bnd hq rfl)) (cnd_f rfl rfl))))))))))
 ·exact bne_self_eq_false _
 ·exact bne_self_eq_false _
end Go.Abs.Sh
