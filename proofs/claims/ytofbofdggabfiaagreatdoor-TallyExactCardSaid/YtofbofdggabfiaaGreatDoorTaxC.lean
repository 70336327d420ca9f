import Derived.Test.YtofbofdggabfiaaGreatDoorTaxB
import Derived.KernelRfl
namespace Go.Abs.Sh
set_option linter.unusedVariables false
set_option linter.unusedSimpArgs false
set_option maxRecDepth 10000
theorem set_mid {A:Type} (f:A→A) (l:List A) (i:Nat) (h:i<l.length):((l.take i).map f++l.drop i).set i (f l[i])=(l.take (i+1)).map f++l.drop (i+1):=by
 rw [List.set_append_right _ _ (by simp; omega)]
 have hl:((l.take i).map f).length=i:=by simp; omega
 rw [hl,Nat.sub_self,List.drop_eq_getElem_cons h,List.set_cons_zero,List.take_add_one,List.getElem?_eq_getElem h]
 simp only [Option.toList_some,List.map_append,List.map_cons,List.map_nil,List.append_assoc,List.cons_append,List.nil_append]
theorem get_mid {A:Type} (f:A→A) (l:List A) (i:Nat) (h:i<l.length):getO ((l.take i).map f++l.drop i) i=some l[i]:=by
 unfold getO
 rw [List.getElem?_append_right (by simp; omega)]
 have hl:((l.take i).map f).length=i:=by simp; omega
 rw [hl,Nat.sub_self,List.drop_eq_getElem_cons h]
 rfl
theorem fold_eq (s:ByteArray) (hs:s.size<4611686018427387904):path_Fold s=some (lowS s):=by
 unfold path_Fold
 refine bnd rfl ?_
 have hlen:(sbytes s).length=s.size:=sbytes_len s
 refine bndL (s:=lowL (sbytes s)) ?_ rfl
 refine loop_from (fun i=>(((sbytes s).take i).map lowB++(sbytes s).drop i,(i:Int))) s.size BIG (by simp) (by unfold BIG; omega) (fun i hi => ?_) ?_
 ·have hi':i<(sbytes s).length:=by omega
  have hb:=byt_sbytes s _ (List.getElem_mem hi')
  have hll:(((sbytes s).take i).map lowB++(sbytes s).drop i).length=(sbytes s).length:=by simp; omega
  have gt:=get_mid lowB (sbytes s) i hi'
  have st:=set_mid lowB (sbytes s) i hi'
  have ix:ixO (i:Int) (((sbytes s).take i).map lowB++(sbytes s).drop i).length=some i:=ixO_of (by omega)
  have w:some (IntKind.i64.wrap ((i:Int)+1))=some ((i+1:Nat):Int):=by rw [wrap_succ (by omega)]
  refine cnd_t (decide_eq_true (by omega)) ?_
  by_cases h1:65≤(sbytes s)[i]∧(sbytes s)[i]≤90
  ·have e:lowB (sbytes s)[i]=(sbytes s)[i]+32:=by unfold lowB; rw [if_pos h1]
   rw [e] at st
   refine bndL (s:=((sbytes s).take (i+1)).map lowB++(sbytes s).drop (i+1)) (bnd ix (bnd gt (bndL (s:=true) (cnd_t (decide_eq_true h1.1) (by rw [decide_eq_true h1.2])) (cnd_t rfl (bnd (by rw [u8_wrap (by omega) (by omega)]) (bnd ix (bnd (by rw [st]) rfl))))))) (bnd w rfl)
  ·have e:lowB (sbytes s)[i]=(sbytes s)[i]:=by unfold lowB; rw [if_neg h1]
   have st2:((sbytes s).take i).map lowB++(sbytes s).drop i=((sbytes s).take (i+1)).map lowB++(sbytes s).drop (i+1):=by
    rw [List.take_add_one,List.getElem?_eq_getElem hi',List.drop_eq_getElem_cons hi']
    simp only [Option.toList_some,List.map_append,List.map_cons,List.map_nil,List.append_assoc,List.cons_append,List.nil_append,e]
   refine bndL (s:=((sbytes s).take (i+1)).map lowB++(sbytes s).drop (i+1)) (bnd ix (bnd gt (bndL (s:=false) ?_ (cnd_f rfl (by rw [st2]))))) (bnd w rfl)
   by_cases h2:65≤(sbytes s)[i]
   ·exact cnd_t (decide_eq_true h2) (by rw [decide_eq_false fun h3=>h1 ⟨h2,h3⟩])
   ·exact cnd_f (decide_eq_false h2) rfl
 ·refine cnd_f (decide_eq_false (by omega)) ?_
  rw [← hlen]
  simp [lowL]
def atpB (p:T_Path) (d:ByteArray):Bool:=patB p&&(!p.Null&&decide (lowS p.Domain=lowS d))
theorem at_eq (p:T_Path) (d:ByteArray) (h:Small p) (hd:d.size<1152921504606846976):path_At p d=some (atpB p d):=by
 unfold path_At atpB
 have h1:=h.d
 cases hp:patB p
 ·exact bndL (s:=false) (bnd (check_eq p h) (by rw [hp]; rfl)) rfl
 ·have cp:=check_eq p h
  rw [hp] at cp
  refine bndL (s := !p.Null&&decide (lowS p.Domain=lowS d)) (bnd cp (cnd_t rfl ?_)) rfl
  cases hn:p.Null
  ·exact cnd_t rfl (bnd (fold_eq p.Domain (by omega)) (bnd (fold_eq d (by omega)) (by rw [toList_beq]; rfl)))
  ·rfl
theorem rat_eq (p:T_Path) (d:ByteArray) (h:p.Domain.size<140737488355328) (hd:d.size<140737488355328):wherryref11_At p d=some (atpB p d):=by
 unfold wherryref11_At atpB
 have cp:=rpath_eq p
 cases hp:patB p
 ·exact bndL (s:=false) (bnd cp (by rw [hp]; rfl)) rfl
 ·rw [hp] at cp
  refine bndL (s := !p.Null&&decide (lowS p.Domain=lowS d)) (bnd cp (cnd_t rfl ?_)) rfl
  cases hn:p.Null
  ·exact cnd_t rfl (bnd (rfold_eq p.Domain h) (bnd (rfold_eq d hd) (by rw [toList_beq]; rfl)))
  ·rfl
theorem wz_mail {m:T_Mail} (h:T_Mail.wz m):mRe m∧byt m.Body:=by
 obtain ⟨⟨_,h1,h2⟩,⟨h3,h4⟩,⟨h5,hb⟩,_,h6,_⟩:=h
 simp only [wzS,reachBytes] at h1 h2 h6
 simp only [reachBytes] at h3 h5
 refine ⟨⟨by omega,by omega,by omega,by omega,by omega,fun p hp => ?_⟩,byt_of_wf ⟨by unfold maxLen; omega,hb⟩⟩
 have:=h4 p hp
 simp only [T_Path.wz,wzS,reachBytes] at this
 omega
def eaS (m:T_Mail) (domain:ByteArray):(((List T_Path)×Int))→Option (((List T_Path)×Int)⊕(((List T_Path))⊕(List T_Path))):=(fun ((s22,s23):(List T_Path)×Int) =>
 cond ((decide (s23<(m.To.length:Int))))
  (bindS (S:=(List T_Path)) (A:=(((List T_Path)×Int)⊕(((List T_Path))⊕(List T_Path))))
   ((ixO s23 m.To.length).bind fun v2 =>
   (getO m.To v2).bind fun v3 =>
   (path_At v3 domain).bind fun v4 =>
   cond (v4)
    ((appO 40 s22 [v3]).bind fun v6 =>
    some (.inl v6))
    (some (.inl s22)))
   (fun (s40:(List T_Path)) =>
    (some (IntKind.i64.wrap (s23+1))).bind fun v12 =>
    some (.inl (s40,v12))) some)
  (some (.inr (.inl s22))))
theorem rin23 (n lo hi:Int):wherryref23_in n lo hi=some (decide (lo≤n)&&decide (n≤hi)):=by
 unfold wherryref23_in
 by_cases h:lo≤n
 ·rw [decide_eq_true h]; exact bndL (s:=decide (n≤hi)) (cnd_t rfl rfl) rfl
 ·rw [decide_eq_false h]; exact bndL (s:=false) (cnd_f rfl rfl) rfl
theorem wadd23 {a b:Nat} (h:a+b<9223372036854775808):some (IntKind.i64.wrap ((a:Int)+(b:Int)))=some ((a+b:Nat):Int):=by
 rw [wrap_i64 (by omega) (by omega)]; simp
theorem hcfg (a b U S:ByteArray) (E L:Int) (H:Bool) (ha:a.size≤140737488355328) (hb:b.size≤140737488355328) (hU:U.size≤140737488355328) (hS:S.size≤140737488355328) :
  wherrylaw23_HeavyConfig (T_Config.mk ([a,b]:List ByteArray) E U S L H)=some (decide (2000<a.size+b.size+U.size+S.size)):=by
 unfold wherrylaw23_HeavyConfig
 exact bnd (wadd23 (a:=a.size) (b:=b.size) (by omega)) (bnd (wadd23 (a:=a.size+b.size) (b:=U.size) (by omega)) (bnd (wadd23 (a:=a.size+b.size+U.size) (b:=S.size) (by omega)) (congrArg some (decide_eq_decide.2 (by omega)))))
theorem eat_eq {m:T_Mail} {d:ByteArray} (hd:d.size≤2000) (hl:m.To.length≤40) (hm:mRe m):envelope_At m d=some (m.To.filter fun p=>atpB p d):=by
 unfold envelope_At
 refine bndL (s:=m.To.filter fun p=>atpB p d) (loop_from (f:=eaS m d) (fun i=>((m.To.take i).filter fun p=>atpB p d,((i:Nat):Int))) m.To.length BIG rfl (by simp only [BIG]; omega) (fun i hi => ?_) ?_) rfl
 ·have hg:=getO_of hi
  have ht:=take_one hi
  have hp:=hm.2.2.2.2.2 _ (List.getElem_mem hi)
  have hfl:=List.length_filter_le (fun p=>atpB p d) (m.To.take i)
  rw [List.length_take] at hfl
  rw [ht,List.filter_append]
  generalize m.To[i]=p at hg hp
  have ha:=at_eq p d ⟨by omega,by omega⟩ (by omega)
  have hw:IntKind.i64.wrap ((i:Int)+1)=((i+1:Nat):Int):=wrap_succ (by omega)
  refine cnd_t (decide_eq_true (by omega)) ?_
  by_cases hb:atpB p d=true
  ·rw [hb] at ha
   have hf:[p].filter (fun p=>atpB p d)=[p]:=by simp [hb]
   rw [hf]
   exact bndL (s:=_) (bnd (ixO_of hi) (bnd hg (bnd ha (cnd_t rfl (bnd (app_of (by simp only [List.length_cons,List.length_nil]; omega) (by simp only [List.length_cons,List.length_nil]; omega)) rfl))))) (bnd (congrArg some hw) rfl)
  ·have hf:[p].filter (fun p=>atpB p d)=[]:=by simp [hb]
   rw [hf,List.append_nil]
   rw [Bool.not_eq_true] at hb
   rw [hb] at ha
   exact bndL (s:=_) (bnd (ixO_of hi) (bnd hg (bnd ha (cnd_f rfl rfl)))) (bnd (congrArg some hw) rfl)
 ·rw [List.take_length]
  exact cnd_f (decide_eq_false (by omega)) rfl
end Go.Abs.Sh
