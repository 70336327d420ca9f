import Derived.Test.YtglabbpbianmnaaGreatDoorBunG
namespace Go.Abs.Sh
set_option linter.unusedVariables false
set_option linter.unusedSimpArgs false
set_option maxRecDepth 10000
def byL (b:T_Bundle) (v3:List Int) (v4:Int):((ByteArray×Int))→Option ((ByteArray×Int)⊕((ByteArray)⊕((List Int)×Int))):=(fun ((s51,s52):ByteArray×Int) =>
  cond ((decide (s52<(([b.Origin,b.Number,(b.Mails.length:Int),(v3.length:Int),v4].length:Int)))))
   ((ixO s52 [b.Origin,b.Number,(b.Mails.length:Int),(v3.length:Int),v4].length).bind fun v6 =>
   (getO [b.Origin,b.Number,(b.Mails.length:Int),(v3.length:Int),v4] v6).bind fun v7 =>
   (strconv_Itoa v7).bind fun v8 =>
   (catO (⟨#[32]⟩:ByteArray) v8).bind fun v9 =>
   (catO s51 v9).bind fun v10 =>
   (some (IntKind.i64.wrap (s52+1))).bind fun v11 =>
   some (.inl (v10,v11)))
   (some (.inr (.inl s51))))
def bunW:List Int:=[66,85,78,68,76,69]
def nmsL:List Nat→List Int
 | []=>[]
 | n::l=>32::(dgA 20 n []++nmsL l)
theorem nmsL_app:∀ a b,nmsL (a++b)=nmsL a++nmsL b
 | [],b=>rfl
 | n::a,b=>by simp only [List.cons_append,nmsL,nmsL_app a b,List.append_assoc]
theorem dg_byt {n:Nat} (h:n<10 ^ 18):byt (dgA 20 n [])∧(dgA 20 n []).length≤21:=by
 obtain ⟨t,h1,h2,h3,h4⟩:=dgA_ok 20 n [] (by omega)
 rw [h1,List.append_nil]
 exact ⟨fun x hx=>by have:=h2 x hx; unfold dig1 at this; omega,h4⟩
theorem nms_byt:∀ {l:List Nat},(∀ n∈l,n<10 ^ 18)→byt (nmsL l)∧(nmsL l).length≤l.length * 22
 | [],_=>⟨byt_nil,by simp [nmsL]⟩
 | n::l,h=>by
  obtain ⟨h1,h2⟩:=dg_byt (h n List.mem_cons_self)
  obtain ⟨h3,h4⟩:=nms_byt (l:=l) fun x hx=>h x (List.mem_cons_of_mem _ hx)
  refine ⟨byt_cons (by omega) (byt_app h1 h3),?_⟩
  simp only [nmsL,List.length_cons,List.length_append]; omega
theorem by_loop (b:T_Bundle) (v3:List Int) (v4:Int) (ns:List Nat) (hns:[b.Origin,b.Number,(b.Mails.length:Int),(v3.length:Int),v4]=ns.map (fun n:Nat=>(n:Int))) (hn:∀ n∈ns,n<10 ^ 18) :
  loopF (byL b v3 v4) BIG ((⟨#[66,85,78,68,76,69]⟩:ByteArray),0)=some (.inl (bstr (bunW++nmsL ns))):=by
 have hl:ns.length=5:=by have:=congrArg List.length hns; simpa using this.symm
 have hbw:byt bunW:=by intro x hx; simp only [bunW,List.mem_cons,List.not_mem_nil,or_false] at hx; omega
 have hB:∀ i,sbytes (bstr (bunW++nmsL (ns.take i)))=bunW++nmsL (ns.take i):=fun i=>sbytes_bstr (byt_app hbw (nms_byt fun n h=>hn n (List.mem_of_mem_take h)).1)
 refine loop_from (fun i=>(bstr (bunW++nmsL (ns.take i)),((i:Nat):Int))) ns.length BIG (by simp only [List.take_zero,nmsL,List.append_nil]; rfl) (by simp only [BIG]; omega) (fun i hi => ?_) ?_
 ·have hi5:i<5:=by omega
  have hlen:(([b.Origin,b.Number,(b.Mails.length:Int),(v3.length:Int),v4].length:Nat))=5:=rfl
  have hni:=hn _ (List.getElem_mem hi)
  obtain ⟨hd1,hd2⟩:=dg_byt hni
  have hnl:=(nms_byt (l:=ns.take i) fun n h=>hn n (List.mem_of_mem_take h)).2
  have htl:(ns.take i).length≤5:=by simp only [List.length_take]; omega
  have hg:getO [b.Origin,b.Number,(b.Mails.length:Int),(v3.length:Int),v4] i=some ((ns[i]:Nat):Int):=by rw [hns]; simp [getO,hi]
  have e:nmsL (ns.take (i+1))=nmsL (ns.take i)++(32::dgA 20 ns[i] []):=by
   rw [List.take_succ_eq_append_getElem hi,nmsL_app]
   simp only [nmsL,List.append_nil]
  have h32:sbytes (⟨#[32]⟩:ByteArray)=[32]:=rfl
  have hbl:bunW.length=6:=rfl
  refine cnd_t (decide_eq_true (by rw [hlen]; omega)) (bnd (ixO_of (by rw [hlen]; exact hi5)) (bnd hg (bnd (itoa_eq 20 _ (by omega) (by omega)) (bnd (catL h32 (sbytes_bstr hd1) (by simp only [List.length_cons,List.length_nil]; omega)) (bnd (catL (hB i) (sbytes_bstr (byt_app (byt_cons (by omega) byt_nil) hd1)) (by simp only [List.length_append,List.length_cons,List.length_nil]; omega)) (bnd (congrArg some (wrap_succ (n:=i) (by omega))) ?_))))))
  rw [e,List.append_assoc]
  rfl
 ·simp only [List.take_length]
  have hlen:(([b.Origin,b.Number,(b.Mails.length:Int),(v3.length:Int),v4].length:Nat))=5:=rfl
  exact cnd_f (decide_eq_false (by rw [hlen]; omega)) rfl
theorem bytes_eq {b:T_Bundle} {ns:List Nat} {v:Int} (hc:bundle_Check b=some 0) (hm:∀ m∈b.Mails,Vm m) (hl:b.Mails.length≤20) (hs:sums_Long (cmds b.Mails++[81,85,73,84,13,10])=some v)
  (hns:[b.Origin,b.Number,(b.Mails.length:Int),((cmds b.Mails++[81,85,73,84,13,10]).length:Int),v]=ns.map (fun n:Nat=>(n:Int))) (hn:∀ n∈ns,n<10 ^ 18) :
  bundle_Bytes b=some (if 4096<((bunW++nmsL ns)++[13,10]++(cmds b.Mails++[81,85,73,84,13,10])).length then ([],2) else ((bunW++nmsL ns)++[13,10]++(cmds b.Mails++[81,85,73,84,13,10]),0)):=by
 obtain ⟨c,hcd⟩:∃ c,c=cmds b.Mails++[81,85,73,84,13,10]:=⟨_,rfl⟩
 have hcl:c.length≤20000006:=by
  have h1:=cmds_len hm
  have h2:b.Mails.length * 1000000≤20 * 1000000:=Nat.mul_le_mul_right _ hl
  rw [hcd]; simp only [List.length_append,List.length_cons,List.length_nil]; omega
 have hcm:=commands_eq hm hl
 rw [← hcd] at hs hns hcm ⊢
 have hlp:=by_loop b c v ns hns hn
 have hl5:ns.length=5:=by have:=congrArg List.length hns; simpa using this.symm
 obtain ⟨hb1,hb2⟩:=nms_byt hn
 have hbw:byt bunW:=by intro x hx; simp only [bunW,List.mem_cons,List.not_mem_nil,or_false] at hx; omega
 have hbl:bunW.length=6:=rfl
 have h13:byt [13,10]:=by intro x hx; simp only [List.mem_cons,List.not_mem_nil,or_false] at hx; omega
 unfold bundle_Bytes
 refine bnd hc (cnd_f rfl (bnd hcm (bnd hs (bndL hlp (bnd (catL (sbytes_bstr (byt_app hbw hb1)) sbE (by simp only [List.length_append,List.length_cons,List.length_nil]; omega)) (bnd (congrArg some (sbytes_bstr (byt_app (byt_app hbw hb1) h13))) (bnd (app_of (by simp only [List.length_append,List.length_cons,List.length_nil]; omega) (by simp only [List.length_append,List.length_cons,List.length_nil]; omega)) ?_)))))))
 by_cases h:4096<((bunW++nmsL ns)++[13,10]++c).length
 ·rw [if_pos h]; exact cnd_t (decide_eq_true (by omega)) rfl
 ·rw [if_neg h]; exact cnd_f (decide_eq_false (by omega)) rfl
end Go.Abs.Sh
