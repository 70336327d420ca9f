import Derived.Test.YtglabbpbianmnaaGreatDoorBunB
namespace Go.Abs.Sh
set_option linter.unusedVariables false
set_option linter.unusedSimpArgs false
set_option maxRecDepth 10000
theorem lm_small {m:T_Mail} (h:LM m):Small m.From∧(∀ p∈m.To,Small p)∧m.Body.length≤20000∧m.To.length≤40:=by
 obtain ⟨h1,h2⟩:=h
 have h2':=h2
 simp only [mW] at h2
 refine ⟨⟨by omega,by omega⟩,fun p hp => ?_,by omega,h1⟩
 have:=pW_le_psum hp
 simp only [pW] at this
 exact ⟨by omega,by omega⟩
def coS (mails:List T_Mail):(((List Int)×Int))→Option (((List Int)×Int)⊕(((List Int))⊕(List Int))):=(fun ((s46,s47):(List Int)×Int) =>
 cond ((decide (s47<(mails.length:Int))))
  ((ixO s47 mails.length).bind fun v2 =>
  (getO mails v2).bind fun v3 =>
  (bundle_commands_1_clo (⟨#[77,65,73,76,32,70,82,79,77,58]⟩:ByteArray) (T_Path.mk v3.From.Null v3.From.Local v3.From.Domain) s46).bind fun v4 =>
  bindS (S:=((List Int))) (A:=(((List Int)×Int)⊕(((List Int))⊕(List Int))))
   (loopF (S:=((List Int)×Int)) (O:=((List Int))⊕(((List Int)×Int)⊕(((List Int))⊕(List Int)))) (fun ((s76,s77):(List Int)×Int) =>
    cond ((decide (s77<(v3.To.length:Int))))
     ((ixO s77 v3.To.length).bind fun v6 =>
     (getO v3.To v6).bind fun v7 =>
     (bundle_commands_1_clo (⟨#[82,67,80,84,32,84,79,58]⟩:ByteArray) v7 s76).bind fun v8 =>
     (some (IntKind.i64.wrap (s77+1))).bind fun v9 =>
     some (.inl (v8,v9)))
     (some (.inr (.inl s76))))
    BIG (v4,0))
   (fun (s79:(List Int)) =>
    (appO 1 s79 (sbytes (⟨#[68,65,84,65,13,10]⟩:ByteArray))).bind fun v24 =>
    (dots_Stuff v3.Body).bind fun v25 =>
    (appO 1 v24 v25.1).bind fun v26 =>
    (some (IntKind.i64.wrap (s47+1))).bind fun v27 =>
    some (.inl (v26,v27))) some)
  (some (.inr (.inl s46))))
def ciS (v3:T_Mail):(((List Int)×Int))→Option (((List Int)×Int)⊕(((List Int))⊕(((List Int)×Int)⊕(((List Int))⊕(List Int))))):=(fun ((s76,s77):(List Int)×Int) =>
    cond ((decide (s77<(v3.To.length:Int))))
     ((ixO s77 v3.To.length).bind fun v6 =>
     (getO v3.To v6).bind fun v7 =>
     (bundle_commands_1_clo (⟨#[82,67,80,84,32,84,79,58]⟩:ByteArray) v7 s76).bind fun v8 =>
     (some (IntKind.i64.wrap (s77+1))).bind fun v9 =>
     some (.inl (v8,v9)))
     (some (.inr (.inl s76))))
def mailW:List Int:=[77,65,73,76,32,70,82,79,77,58]
def rcptW:List Int:=[82,67,80,84,32,84,79,58]
def lnL (w:List Int) (p:T_Path):List Int:=w++(txtL p++[13,10])
def rcs:List T_Path→List Int
 | []=>[]
 | p::l=>lnL rcptW p++rcs l
theorem rcs_app:∀ a b,rcs (a++b)=rcs a++rcs b
 | [],b=>rfl
 | p::a,b=>by simp only [List.cons_append,rcs,rcs_app a b,List.append_assoc]
def stfB (b:List Int):List Int:=((dots_Stuff b).map (·.1)).getD []
def cmd (m:T_Mail):List Int:=lnL mailW m.From++(rcs m.To++([68,65,84,65,13,10]++stfB m.Body))
def cmds:List T_Mail→List Int
 | []=>[]
 | m::l=>cmd m++cmds l
theorem cmds_app:∀ a b,cmds (a++b)=cmds a++cmds b
 | [],b=>rfl
 | p::a,b=>by simp only [List.cons_append,cmds,cmds_app a b,List.append_assoc]
structure Vm (m:T_Mail):Prop where
 lm:LM m
 pf:patB m.From=true
 pt:∀ p∈m.To,patB p=true
 bd:∃ ls,(∀ l∈ls,cln l)∧(∀ l∈ls,byt l)∧m.Body=jn ls
theorem txt_len {p:T_Path} (h:pW p≤20000):(txtL p).length≤20010:=by
 simp only [pW] at h
 unfold txtL
 cases p.Null
 ·simp only [cond_false,List.length_cons,List.length_append,sbytes_len,List.length_nil]; omega
 ·simp
theorem clo_eq {word:ByteArray} {w:List Int} {p:T_Path} {cap:List Int} (hw:sbytes word=w) (hwl:w.length≤100) (hp:patB p=true) (hs:Small p) (hpl:pW p≤20000) (hc:cap.length≤1000000000):bundle_commands_1_clo word p cap=some (cap++lnL w p):=by
 have hl:=txt_len hpl
 unfold bundle_commands_1_clo
 have hb:sbytes (bstr (txtL p))=txtL p:=sbytes_bstr (byt_txt p)
 have hwb:byt w:=by rw [← hw]; exact byt_sbytes word
 have h2:sbytes (bstr (w++txtL p))=w++txtL p:=sbytes_bstr (byt_app hwb (byt_txt p))
 have h3:byt [13,10]:=by intro x hx; simp only [List.mem_cons,List.not_mem_nil,or_false] at hx; omega
 have h4:sbytes (bstr ((w++txtL p)++[13,10]))=lnL w p:=by rw [sbytes_bstr (byt_app (byt_app hwb (byt_txt p)) h3)]; simp [lnL]
 refine bnd ((text_eq p hs).trans (by rw [hp])) (bnd (catL hw hb (by omega)) (bnd (catL h2 sbE (by simp only [List.length_append,List.length_cons,List.length_nil]; omega)) (bnd ?_ rfl)))
 rw [h4]
 exact app_of (by simp only [lnL,List.length_append,List.length_cons,List.length_nil]; omega) (by simp only [lnL,List.length_append,List.length_cons,List.length_nil]; omega)
theorem lnL_len {w:List Int} {p:T_Path} (hw:w.length≤100) (hpl:pW p≤20000):(lnL w p).length≤20200:=by
 have:=txt_len hpl
 simp only [lnL,List.length_append,List.length_cons,List.length_nil]; omega
theorem rcs_len:∀ {l:List T_Path},(∀ p∈l,pW p≤20000)→(rcs l).length≤l.length * 20200
 | [],_=>by simp [rcs]
 | p::l,h=>by
  have h1:=lnL_len (w:=rcptW) (by decide) (h p List.mem_cons_self)
  have h2:=rcs_len (l:=l) fun q hq=>h q (List.mem_cons_of_mem _ hq)
  simp only [rcs,List.length_append,List.length_cons]; omega
theorem lm_pw {m:T_Mail} (h:LM m):pW m.From≤20000∧∀ p∈m.To,pW p≤20000:=by
 obtain ⟨h1,h2⟩:=h
 simp only [mW] at h2
 refine ⟨by simp only [pW]; omega,fun p hp => ?_⟩
 have:=pW_le_psum hp
 omega
theorem stfB_eq {m:T_Mail} (h:Vm m):dots_Stuff m.Body=some (stfB m.Body,0)∧(stfB m.Body).length≤50000:=by
 obtain ⟨ls,h1,h2,h3⟩:=h.bd
 have hl:=(lm_small h.lm).2.2.1
 have ht:tot ls≤20000:=by rw [← jn_len,← h3]; exact hl
 have hs:=stuff_ok h1 h2 (by omega:tot ls<1000000000)
 rw [← h3] at hs
 have e:stfB m.Body=jn (ls.map stf++[[46]]):=by unfold stfB; rw [hs]; rfl
 refine ⟨by rw [e]; exact hs,?_⟩
 rw [e,jn_len,tot_app]
 have:=tot_stf ls
 simp only [tot,List.length_cons,List.length_nil]
 omega
theorem cmd_len {m:T_Mail} (h:Vm m):(cmd m).length≤1000000:=by
 obtain ⟨h1,h2⟩:=lm_pw h.lm
 have a:=lnL_len (w:=mailW) (by decide) h1
 have b:=rcs_len h2
 have c:=(stfB_eq h).2
 have d:=h.lm.1
 have e:m.To.length * 20200≤40 * 20200:=Nat.mul_le_mul_right _ d
 simp only [cmd,List.length_append,List.length_cons,List.length_nil]; omega
theorem cmds_len:∀ {l:List T_Mail},(∀ m∈l,Vm m)→(cmds l).length≤l.length * 1000000
 | [],_=>by simp [cmds]
 | p::l,h=>by
  have h1:=cmd_len (h p List.mem_cons_self)
  have h2:=cmds_len (l:=l) fun q hq=>h q (List.mem_cons_of_mem _ hq)
  simp only [cmds,List.length_append,List.length_cons]; omega
theorem ci_loop {m:T_Mail} (h:Vm m) (A:List Int) (hA:A.length≤100000000):loopF (ciS m) BIG (A,0)=some (.inl (A++rcs m.To)):=by
 obtain ⟨h1,h2⟩:=lm_pw h.lm
 have hsm:=(lm_small h.lm).2.1
 have d:=h.lm.1
 refine loop_from (fun i=>(A++rcs (m.To.take i),((i:Nat):Int))) m.To.length BIG (by simp [rcs]) (by simp only [BIG]; omega) (fun i hi => ?_) ?_
 ·have hm:=List.getElem_mem hi
  have hb:=rcs_len (l:=m.To.take i) fun p hp=>h2 p (List.mem_of_mem_take hp)
  have hbl:(m.To.take i).length≤40:=by simp only [List.length_take]; omega
  have hb':(m.To.take i).length * 20200≤40 * 20200:=Nat.mul_le_mul_right _ hbl
  have e:rcs (m.To.take (i+1))=rcs (m.To.take i)++lnL rcptW m.To[i]:=by
   rw [List.take_succ_eq_append_getElem hi,rcs_app]
   simp only [rcs,List.append_nil]
  refine cnd_t (decide_eq_true (by omega)) (bnd (ixO_of hi) (bnd (by simp [getO,hi]:getO m.To i=some m.To[i]) (bnd (clo_eq (w:=rcptW) rfl (by decide) (h.pt _ hm) (hsm _ hm) (h2 _ hm) (by simp only [List.length_append]; omega)) (bnd (congrArg some (wrap_succ (n:=i) (by omega))) ?_))))
  rw [e,List.append_assoc]
 ·simp only [List.take_length]
  exact cnd_f (decide_eq_false (by omega)) rfl
theorem commands_eq {l:List T_Mail} (h:∀ m∈l,Vm m) (hl:l.length≤20):bundle_commands l=some (cmds l++[81,85,73,84,13,10]):=by
 unfold bundle_commands
 have hcl:=cmds_len h
 refine bndL (s:=cmds l) (loop_from (f:=coS l) (fun i=>(cmds (l.take i),((i:Nat):Int))) l.length BIG (by simp [cmds]) (by simp only [BIG]; omega) (fun i hi => ?_) ?_) (bnd (app_of (by simp only [sbytes_len]; show _≤_; have:(⟨#[81,85,73,84,13,10]⟩:ByteArray).size=6:=rfl; omega) (by simp only [sbytes_len]; have:(⟨#[81,85,73,84,13,10]⟩:ByteArray).size=6:=rfl; omega)) rfl)
 ·have hm:=h _ (List.getElem_mem hi)
  obtain ⟨h1,h2⟩:=lm_pw hm.lm
  have hsm:=lm_small hm.lm
  have hb:=cmds_len (l:=l.take i) fun p hp=>h p (List.mem_of_mem_take hp)
  have hbl:(l.take i).length≤20:=by simp only [List.length_take]; omega
  have hb':(l.take i).length * 1000000≤20 * 1000000:=Nat.mul_le_mul_right _ hbl
  have a:=lnL_len (w:=mailW) (by decide) h1
  have hr:=rcs_len h2
  have hr':l[i].To.length * 20200≤40 * 20200:=Nat.mul_le_mul_right _ hm.lm.1
  obtain ⟨hs1,hs2⟩:=stfB_eq hm
  have e:cmds (l.take (i+1))=cmds (l.take i)++cmd l[i]:=by
   rw [List.take_succ_eq_append_getElem hi,cmds_app]
   simp only [cmds,List.append_nil]
  refine cnd_t (decide_eq_true (by omega)) (bnd (ixO_of hi) (bnd (by simp [getO,hi]:getO l i=some l[i]) (bnd (clo_eq (w:=mailW) (p:=l[i].From) rfl (by decide) hm.pf hsm.1 h1 (by omega)) (bndL (ci_loop hm _ (by simp only [List.length_append]; omega)) (bnd (app_of (m:=[68,65,84,65,13,10]) (by simp only [List.length_append,List.length_cons,List.length_nil]; omega) (by simp only [List.length_append,List.length_cons,List.length_nil]; omega)) (bnd hs1 (bnd (app_of (by simp only [List.length_append,List.length_cons,List.length_nil]; omega) (by simp only [List.length_append,List.length_cons,List.length_nil]; omega)) (bnd (congrArg some (wrap_succ (n:=i) (by omega))) ?_))))))))
  rw [e]
  simp only [cmd,List.append_assoc]
 ·simp only [List.take_length]
  exact cnd_f (decide_eq_false (by omega)) rfl
end Go.Abs.Sh
