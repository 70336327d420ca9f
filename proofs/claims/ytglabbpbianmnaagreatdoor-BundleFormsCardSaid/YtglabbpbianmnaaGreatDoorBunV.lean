import Derived.Test.YtglabbpbianmnaaGreatDoorBunR
import Derived.Test.YtglabbpbianmnaaGreatDoorPatC
import Derived.KernelRfl
namespace Go.Abs.Sh
set_option linter.unusedVariables false
set_option linter.unusedSimpArgs false
set_option maxRecDepth 10000
theorem in_eq (n lo hi:Int):wherryref11_in n lo hi=some (decide (lo≤n)&&decide (n≤hi)):=by
 unfold wherryref11_in
 cases decide (lo≤n) <;> rfl
def letB (c:Int):Bool:=decide (97≤c)&&decide (c≤122)||decide (65≤c)&&decide (c≤90)
def digB (c:Int):Bool:=decide (48≤c)&&decide (c≤57)
theorem rletter (c:Int):wherryref11_letter c=some (letB c):=by
 unfold wherryref11_letter letB
 cases decide (97≤c) <;> cases decide (c≤122) <;> cases decide (65≤c) <;> cases decide (c≤90) <;> rfl
theorem rdigit (c:Int):wherryref11_digit c=some (digB c):=by
 unfold wherryref11_digit digB
 cases decide (48≤c) <;> rfl
theorem lb_or (c:Int):lbB c=(letB c||(digB c||c==45)):=by
 unfold lbB alB letB digB
 cases decide (97≤c) <;> cases decide (c≤122) <;> cases decide (65≤c) <;> cases decide (c≤90) <;> cases decide (48≤c) <;> cases decide (c≤57) <;> simp
def chkR (q:Int→Int→Bool):Int→List Int→Bool
 | _,[]=>true
 | p,x::r=>q p x&&chkR q x r
theorem chkR_iff (q:Int→Int→Bool):∀ (l:List Int) (p:Int),(∀ i,i<l.length→q ((p::l).getD i 0) (l.getD i 0)=true)↔chkR q p l=true
 | [],p=>by simp [chkR]
 | x::r,p=>by
  unfold chkR
  rw [Bool.and_eq_true,← chkR_iff q r x]
  constructor
  ·intro h
   exact ⟨by simpa using h 0 (by simp),fun i hi=>by simpa using h (i+1) (by simpa using hi)⟩
  ·rintro ⟨h0,h1⟩ i hi
   cases i with
   | zero=>simpa using h0
   | succ i=>simpa using h1 i (by simpa using hi)
def labE (l:List Int):Bool:=decide (1≤l.length)&&(decide (l.length≤63)&&(l.getD 0 0 != 45&&l.getD (l.length-1) 0 != 45))
theorem labB_E (l:List Int):labB l=(labE l&&l.all lbB):=by
 unfold labB labE
 cases l with
 | nil=>rfl
 | cons x r =>
  rw [last_getD (by simp),head_getD (by simp)]
  have:decide (1≤(x::r).length)=true:=by simp
  rw [this]
  simp only [List.isEmpty_cons,Bool.not_false,Bool.true_and]
  have e1:(some ((x::r).getD 0 0) != some 45)=((x::r).getD 0 0 != 45):=by rw [Bool.eq_iff_iff]; simp
  have e2:(some ((x::r).getD ((x::r).length-1) 0) != some 45)=((x::r).getD ((x::r).length-1) 0 != 45):=by rw [Bool.eq_iff_iff]; simp
  rw [e1,e2]
  simp only [Bool.and_assoc]
def domG:List Int→List Int→Bool
 | cur,[]=>labE cur
 | cur,x::r=>if x=46 then labE cur&&domG [] r else lbB x&&domG (cur++[x]) r
theorem domG_spl:∀ (l cur:List Int),cur.all lbB=true→domG cur l=match spl 46 l with
  | []=>true
  | a::ps=>labB (cur++a)&&ps.all labB
 | [],cur,h=>by simp [domG,spl,labB_E,h]
 | x::r,cur,h=>by
  have hne:=spl_ne 46 r
  unfold domG spl
  by_cases hx:x=46
  ·rw [if_pos hx,if_pos hx,domG_spl r [] rfl]
   cases hs:spl 46 r with
   | nil=>exact absurd hs hne
   | cons a ps=>simp [labB_E,h]
  ·rw [if_neg hx,if_neg hx]
   cases hs:spl 46 r with
   | nil=>exact absurd hs hne
   | cons a ps =>
    cases hl:lbB x
    ·simp [labB_E,hl]
    ·have:=domG_spl r (cur++[x]) (by simp [h,hl])
     rw [this,hs]
     simp
theorem dom_G (l:List Int):(spl 46 l).all labB=domG [] l:=by
 rw [domG_spl l [] rfl]
 cases hs:spl 46 l with
 | nil=>exact absurd hs (spl_ne 46 l)
 | cons a ps=>simp
def rdomS (s:ByteArray):Int×Int→Option ((Int×Int)⊕(Unit⊕Bool)):=(fun ((s88,s89):Int×Int) =>
    cond ((decide (s89≤(s.size:Int))))
     (bindS (S:=Int) (A:=((Int×Int)⊕((Unit)⊕Bool)))
      (bindS (S:=Bool) (A:=(Int⊕((Int×Int)⊕((Unit)⊕Bool))))
       (cond ((decide (s89<(s.size:Int))))
        ((chrO s s89).bind fun v4 =>
        some (.inl (v4 != 46)))
        (some (.inl false)))
       (fun (s151:Bool) =>
        cond (s151)
         (bindS (S:=Bool) (A:=(Int⊕((Int×Int)⊕((Unit)⊕Bool))))
          ((chrO s s89).bind fun v10 =>
          (wherryref11_letter v10).bind fun v11 =>
          cond ((!v11))
           ((chrO s s89).bind fun v12 =>
           (wherryref11_digit v12).bind fun v13 =>
           cond ((!v13))
            ((chrO s s89).bind fun v14 =>
            some (.inl (v14 != 45)))
            (some (.inl false)))
           (some (.inl false)))
          (fun (s156:Bool) =>
           cond (s156)
            (some (.inr (.inr (.inr (false)))))
            (some (.inl s88))) some)
         (bindS (S:=Bool) (A:=(Int⊕((Int×Int)⊕((Unit)⊕Bool))))
          ((some (IntKind.i64.wrap (s89-s88))).bind fun v20 =>
          (wherryref11_in v20 1 63).bind fun v21 =>
          cond ((!v21))
           (some (.inl true))
           ((chrO s s88).bind fun v22 =>
           cond ((v22==45))
            (some (.inl true))
            ((some (IntKind.i64.wrap (s89-1))).bind fun v23 =>
            (chrO s v23).bind fun v24 =>
            some (.inl (v24==45)))))
          (fun (s161:Bool) =>
           cond (s161)
            (some (.inr (.inr (.inr (false)))))
            ((some (IntKind.i64.wrap (s89+1))).bind fun v30 =>
            some (.inl v30))) some)) some)
      (fun (s147:Int) =>
       (some (IntKind.i64.wrap (s89+1))).bind fun v50 =>
       some (.inl (s147,v50))) some)
     (some (.inr (.inl ()))))
theorem rlab {R:Type} (s:ByteArray) (f i:Nat) (cur:List Int) (hi:i≤s.size) (hs:s.size<4611686018427387904) (hl:f+cur.length=i) (hc:∀ j,j<cur.length→(sbytes s).getD (f+j) 0=cur.getD j 0) (A:Option (R⊕((Int×Int)⊕(Unit⊕Bool)))) (B:Option (R⊕((Int×Int)⊕(Unit⊕Bool)))) :
  (bindS (S:=Bool) (A:=(R⊕((Int×Int)⊕((Unit)⊕Bool))))
          ((some (IntKind.i64.wrap ((i:Int)-(f:Int)))).bind fun v20 =>
          (wherryref11_in v20 1 63).bind fun v21 =>
          cond ((!v21))
           (some (.inl true))
           ((chrO s (f:Int)).bind fun v22 =>
           cond ((v22==45))
            (some (.inl true))
            ((some (IntKind.i64.wrap ((i:Int)-1))).bind fun v23 =>
            (chrO s v23).bind fun v24 =>
            some (.inl (v24==45)))))
          (fun (s161:Bool) =>
           cond (s161) A B) some)=cond (labE cur) B A:=by
 have w:some (IntKind.i64.wrap ((i:Int)-(f:Int)))=some (cur.length:Int):=by rw [wrap_i (by omega) (by omega)]; congr 1; omega
 have hin:=in_eq (cur.length:Int) 1 63
 unfold labE
 by_cases h1:1≤cur.length
 ·by_cases h2:cur.length≤63
  ·rw [decide_eq_true (by omega),decide_eq_true (by omega)] at hin
   rw [decide_eq_true h1,decide_eq_true h2]
   have c0:=chrD (s:=s) (i:=f) (by omega)
   have e0:=hc 0 (by omega)
   rw [Nat.add_zero] at e0
   rw [e0] at c0
   have c1:=chrD (s:=s) (i:=i-1) (by omega)
   have e1:=hc (cur.length-1) (by omega)
   rw [show f+(cur.length-1)=i-1 by omega] at e1
   rw [e1,show ((i-1:Nat):Int)=(i:Int)-1 by omega] at c1
   by_cases h3:cur.getD 0 0=45
   ·refine bndL (s:=true) (bnd w (bnd hin (cnd_f rfl (bnd c0 (cnd_t (by rw [h3]; rfl) rfl))))) ?_
    rw [h3]; rfl
   ·have x3:(cur.getD 0 0==45)=false:=by simpa using h3
    have y3:(cur.getD 0 0 != 45)=true:=by simpa using h3
    refine bndL (s:=(cur.getD (cur.length-1) 0==45)) (bnd w (bnd hin (cnd_f rfl (bnd c0 (cnd_f x3 (bnd (wrap_i (by omega) (by omega)) (bnd c1 rfl))))))) ?_
    rw [y3]
    unfold bne
    cases (cur.getD (cur.length-1) 0==45) <;> rfl
  ·rw [decide_eq_true (by omega),decide_eq_false (by omega)] at hin
   rw [decide_eq_true h1,decide_eq_false h2]
   exact bndL (s:=true) (bnd w (bnd hin rfl)) rfl
 ·rw [decide_eq_false (by omega)] at hin
  rw [decide_eq_false h1]
  exact bndL (s:=true) (bnd w (bnd hin rfl)) rfl
theorem rdom_loop (s:ByteArray) (hs:s.size<4611686018427387904):∀ (rest cur:List Int) (f i fuel:Nat),f+cur.length=i→(sbytes s).drop i=rest→i≤s.size→(∀ j,j<cur.length→(sbytes s).getD (f+j) 0=cur.getD j 0)→rest.length+1<fuel →
  loopF (rdomS s) fuel ((f:Int),(i:Int))=some (if domG cur rest=true then .inl () else .inr false)
 | [],cur,f,i,fuel,hl,hd,hi,hc,hf=>by
  have hi2:i=s.size:=by
   have:=congrArg List.length hd
   rw [List.length_drop,sbytes_len] at this
   simp at this; omega
  obtain ⟨k,rfl⟩:∃ k,fuel=k+1+1:=⟨fuel-2,by simp at hf; omega⟩
  have hr:=rlab (R:=Int) s f i cur hi hs hl hc (some (.inr (.inr (.inr false)))) ((some (IntKind.i64.wrap ((i:Int)+1))).bind fun v30=>some (.inl v30))
  have w:some (IntKind.i64.wrap ((i:Int)+1))=some ((i+1:Nat):Int):=by rw [wrap_succ (by omega)]
  have hd0:domG cur []=labE cur:=rfl
  rw [hd0]
  cases hlab:labE cur
  ·rw [hlab,cond_false] at hr
   rw [loop_exit (o := .inr false)]
   ·rfl
   ·unfold rdomS
    exact cnd_t (decide_eq_true (by omega)) (bndR (a := .inr (.inr false)) (bndL (s:=false) (cnd_f (decide_eq_false (by omega)) rfl) (cnd_f rfl hr)) rfl)
  ·rw [hlab,cond_true] at hr
   rw [loop_next (s':=(((i+1:Nat):Int),((i+1:Nat):Int))),loop_exit (o := .inl ())]
   ·rfl
   ·unfold rdomS
    exact cnd_f (decide_eq_false (by omega)) rfl
   ·unfold rdomS
    exact cnd_t (decide_eq_true (by omega)) (bndL (s:=((i+1:Nat):Int)) (bndL (s:=false) (cnd_f (decide_eq_false (by omega)) rfl) (cnd_f rfl (hr.trans (bnd w rfl)))) (bnd w rfl))
 | x::rest,cur,f,i,fuel,hl,hd,hi,hc,hf=>by
  have hlt:i<s.size:=by
   have:=congrArg List.length hd
   rw [List.length_drop,sbytes_len] at this
   simp at this; omega
  have hx:(sbytes s).getD i 0=x:=by
   have:=congrArg List.head? hd
   rw [List.head?_drop] at this
   rw [List.getD_eq_getElem?_getD,this]; rfl
  have hd2:(sbytes s).drop (i+1)=rest:=by
   rw [← List.drop_drop,hd]; rfl
  obtain ⟨k,rfl⟩:∃ k,fuel=k+1:=⟨fuel-1,by omega⟩
  have hchr:=chrD hlt
  rw [hx] at hchr
  have w:some (IntKind.i64.wrap ((i:Int)+1))=some ((i+1:Nat):Int):=by rw [wrap_succ (by omega)]
  have lt:decide ((i:Int)≤(s.size:Int))=true:=decide_eq_true (by omega)
  have lt2:decide ((i:Int)<(s.size:Int))=true:=decide_eq_true (by omega)
  unfold domG
  by_cases h46:x=46
  ·rw [if_pos h46]
   have hr:=rlab (R:=Int) s f i cur hi hs hl hc (some (.inr (.inr (.inr false)))) ((some (IntKind.i64.wrap ((i:Int)+1))).bind fun v30=>some (.inl v30))
   cases hlab:labE cur
   ·rw [hlab,cond_false] at hr
    rw [loop_exit (o := .inr false)]
    ·rfl
    ·unfold rdomS
     exact cnd_t lt (bndR (a := .inr (.inr false)) (bndL (s:=false) (cnd_t lt2 (bnd hchr (by rw [h46]; rfl))) (cnd_f rfl hr)) rfl)
   ·rw [hlab,cond_true] at hr
    rw [loop_next (s':=(((i+1:Nat):Int),((i+1:Nat):Int)))]
    ·rw [Bool.true_and]
     exact rdom_loop s hs rest [] (i+1) (i+1) k (by simp) hd2 (by omega) (by simp) (by simp at hf; omega)
    ·unfold rdomS
     exact cnd_t lt (bndL (s:=((i+1:Nat):Int)) (bndL (s:=false) (cnd_t lt2 (bnd hchr (by rw [h46]; rfl))) (cnd_f rfl (hr.trans (bnd w rfl)))) (bnd w rfl))
  ·rw [if_neg h46]
   have hx46:(x != 46)=true:=by simpa using h46
   have hlb:=lb_or x
   have hin:((chrO s (i:Int)).bind fun v10 =>
          (wherryref11_letter v10).bind fun v11 =>
          cond ((!v11))
           ((chrO s (i:Int)).bind fun v12 =>
           (wherryref11_digit v12).bind fun v13 =>
           cond ((!v13))
            ((chrO s (i:Int)).bind fun v14 =>
            some (Sum.inl (β:=(Int⊕((Int×Int)⊕((Unit)⊕Bool)))) (v14 != 45)))
            (some (.inl false)))
           (some (.inl false)))=some (.inl (!lbB x)):=by
    rw [hlb]
    refine bnd hchr (bnd (rletter x) ?_)
    cases letB x
    ·refine cnd_t rfl (bnd hchr (bnd (rdigit x) ?_))
     cases digB x
     ·exact cnd_t rfl (bnd hchr rfl)
     ·rfl
    ·rfl
   cases hl1:lbB x
   ·rw [hl1] at hin
    rw [loop_exit (o := .inr false)]
    ·rfl
    ·unfold rdomS
     exact cnd_t lt (bndR (a := .inr (.inr false)) (bndL (s:=true) (cnd_t lt2 (bnd hchr (by rw [hx46]))) (cnd_t rfl (bndL (s:=true) hin rfl))) rfl)
   ·rw [hl1] at hin
    rw [loop_next (s':=((f:Int),((i+1:Nat):Int)))]
    ·rw [Bool.true_and]
     refine rdom_loop s hs rest (cur++[x]) f (i+1) k (by simp; omega) hd2 (by omega) (fun j hj => ?_) (by simp at hf; omega)
     simp at hj
     by_cases hj2:j<cur.length
     ·rw [hc j hj2,List.getD_eq_getElem?_getD,List.getD_eq_getElem?_getD,List.getElem?_append_left hj2]
     ·have hj3:j=cur.length:=by omega
      subst hj3
      rw [hl,hx]
      simp
    ·unfold rdomS
     exact cnd_t lt (bndL (s:=(f:Int)) (bndL (s:=true) (cnd_t lt2 (bnd hchr (by rw [hx46]))) (cnd_t rfl (bndL (s:=false) hin rfl))) (bnd w rfl))
theorem rdom_eq (s:ByteArray):wherryref11_Domain s=some (domB (sbytes s)):=by
 unfold wherryref11_Domain domB
 rw [sbytes_len]
 have hin:=in_eq (s.size:Int) 1 255
 by_cases h:1≤s.size∧s.size≤255
 ·rw [decide_eq_true (by omega),decide_eq_true (by omega)] at hin
  refine bnd hin (cnd_f rfl ?_)
  rw [decide_eq_true h.2,Bool.true_and,dom_G]
  have:=rdom_loop s (by omega) (sbytes s) [] 0 0 BIG rfl rfl (by omega) (by simp) (by rw [sbytes_len]; unfold BIG; omega)
  change bindS (loopF (rdomS s) BIG ((0:Nat),(0:Nat))) _ _=_
  rw [this]
  cases domG [] (sbytes s) <;> rfl
 ·have hn:(decide ((1:Int)≤(s.size:Int))&&decide ((s.size:Int)≤255))=false:=by
   by_cases h1:1≤s.size
   ·rw [decide_eq_true (by omega),decide_eq_false (by omega)]; rfl
   ·rw [decide_eq_false (by omega)]; rfl
  rw [hn] at hin
  refine bnd hin (cnd_t rfl ?_)
  by_cases h1:1≤s.size
  ·rw [decide_eq_false (by omega)]; rfl
  ·have:sbytes s=[]:=List.eq_nil_of_length_eq_zero (by rw [sbytes_len]; omega)
   rw [this]
   simp [spl,labB]
theorem rsign_all:(List.range 256).all (fun k=>decide (wherryref11_sign ((k:Nat):Int)=some (atB ((k:Nat):Int))))=true:=by kernel_rfl
theorem rsign {c:Int} (hc:0≤c∧c<256):wherryref11_sign c=some (atB c):=by
 simpa using of_byte (fun c=>decide (wherryref11_sign c=some (atB c))) rsign_all hc
def qLoc (p x:Int):Bool:=if x=46 then decide (p≠46) else atB x
def locG (p:Int) (l:List Int):Bool:=chkR qLoc p l&&decide ((p::l).getLast? ≠ some 46)
theorem locG_spl:∀ (l:List Int) (p:Int),locG p l=match spl 46 l with
  | []=>true
  | a::ps=>(if p=46 then atmB a else a.all atB)&&ps.all atmB
 | [],p=>by
  unfold locG
  simp only [chkR,spl,Bool.true_and,List.getLast?_singleton,List.all_nil,Bool.and_true]
  by_cases h:p=46
  ·simp [h,atmB]
  ·simp [h]
 | x::r,p=>by
  have ih:=locG_spl r x
  have hne:=spl_ne 46 r
  unfold spl
  have e:locG p (x::r)=(qLoc p x&&locG x r):=by
   unfold locG
   simp only [chkR,List.getLast?_cons_cons,Bool.and_assoc]
  rw [e,ih]
  cases hs:spl 46 r with
  | nil=>exact absurd hs hne
  | cons a ps =>
   by_cases hx:x=46
   ·subst hx
    simp only [qLoc,if_true,List.all_cons]
    by_cases hp:p=46
    ·subst hp; simp [atmB]
    ·simp [hp]
   ·simp only [qLoc,if_neg hx,List.all_cons]
    by_cases hp:p=46
    ·subst hp; simp [atmB,Bool.and_assoc]
    ·simp [hp,Bool.and_assoc]
theorem loc_chk (l:List Int) (hne:l≠[]) (h46:l.head? ≠ some 46) (hl:l.getLast? ≠ some 46):(spl 46 l).all atmB=chkR qLoc 0 l:=by
 have h:=locG_spl l 46
 have e1:locG 46 l=chkR qLoc 0 l:=by
  cases l with
  | nil=>exact absurd rfl hne
  | cons x r =>
   have hx:x≠46:=by simpa using h46
   unfold locG
   simp only [chkR,List.getLast?_cons_cons,qLoc,if_neg hx]
   rw [decide_eq_true hl,Bool.and_true]
 rw [← e1,h]
 cases hs:spl 46 l with
 | nil=>exact absurd hs (spl_ne 46 l)
 | cons a ps=>simp
theorem loc_first {l:List Int} (h:l.head? = some 46):(spl 46 l).all atmB=false:=by
 cases l with
 | nil=>simp at h
 | cons x r=>simp at h; subst h; simp [spl,atmB]
theorem loc_last {l:List Int} (h:l.getLast? = some 46):(spl 46 l).all atmB=false:=by
 have h2:=locG_spl l 46
 have e:(spl 46 l).all atmB=locG 46 l:=by
  rw [h2]
  cases hs:spl 46 l with
  | nil=>exact absurd hs (spl_ne 46 l)
  | cons a ps=>simp
 rw [e]
 unfold locG
 cases l with
 | nil=>simp at h
 | cons x r=>rw [List.getLast?_cons_cons,h]; simp
theorem rloc_eq (s:ByteArray):wherryref11_Local s=some (locB (sbytes s)):=by
 unfold wherryref11_Local locB
 rw [sbytes_len]
 by_cases h:1≤s.size∧s.size≤64
 ·have hn:(decide ((1:Int)≤(s.size:Int))&&decide ((s.size:Int)≤64))=true:=by rw [decide_eq_true (by omega),decide_eq_true (by omega)]; rfl
  have hin:=in_eq (s.size:Int) 1 64
  rw [hn] at hin
  have hne:sbytes s≠[]:=by intro e; have:=sbytes_len s; rw [e] at this; simp at this; omega
  have hh:=head_getD hne
  have hg:=last_getD hne
  rw [sbytes_len] at hg
  have c0:=chrD (s:=s) (i:=0) (by omega)
  have c1:=chrD (s:=s) (i:=s.size-1) (by omega)
  have e1:((s.size-1:Nat):Int)=(s.size:Int)-1:=by omega
  rw [e1] at c1
  rw [decide_eq_true h.2,Bool.true_and]
  by_cases h0:(sbytes s).getD 0 0=46
  ·rw [h0] at hh c0
   rw [loc_first hh]
   exact bndL (s:=true) (bnd hin (cnd_f rfl (bnd c0 (cnd_t rfl rfl)))) rfl
  ·by_cases hl:(sbytes s).getD (s.size-1) 0=46
   ·rw [hl] at hg c1
    rw [loc_last hg]
    exact bndL (s:=true) (bnd hin (cnd_f rfl (bnd c0 (cnd_f (by simpa using h0) (bnd (wrap_i (by omega) (by omega)) (bnd c1 rfl)))))) rfl
   ·rw [loc_chk _ hne (by rw [hh]; simpa using h0) (by rw [hg]; simpa using hl)]
    refine bndL (s:=false) (bnd hin (cnd_f rfl (bnd c0 (cnd_f (by simpa using h0) (bnd (wrap_i (by omega) (by omega)) (bnd c1 (by rw [show ((sbytes s).getD (s.size-1) 0==46)=false by simpa using hl])))))) ) (cnd_f rfl ?_)
    let q:Nat→Bool:=fun i=>qLoc ((0::sbytes s).getD i 0) ((sbytes s).getD i 0)
    have hl2:=fun (g:Int→Option (Int⊕(Unit⊕Bool)))=>loop_all (R:=Bool) (f:=g) q s.size false (fuel:=BIG) (by unfold BIG; omega)
    have hiff:=chkR_iff qLoc (sbytes s) 0
    rw [sbytes_len] at hiff
    have prev:∀ i,i<s.size→(sbytes s).getD i 0=46→chrO s ((i:Int)-1)=some ((0::sbytes s).getD i 0):=by
     intro i hi h46
     cases i with
     | zero=>exact absurd h46 h0
     | succ i =>
      have:=chrD (s:=s) (i:=i) (by omega)
      have e:((i+1:Nat):Int)-1=(i:Int):=by omega
      rw [e,this]; rfl
    rw [show chkR qLoc 0 (sbytes s)=decide (∀ i,i<s.size→q i=true) by rw [Bool.eq_iff_iff,decide_eq_true_eq]; exact hiff.symm]
    refine (congrArg (fun m=>bindS m _ _) (hl2 _ ?_ ?_ ?_)).trans ?_
    ·intro i hi hq
     have w:some (IntKind.i64.wrap ((i:Int)-1))=some ((i:Int)-1):=wrap_i (by omega) (by omega)
     have w2:some (IntKind.i64.wrap ((i:Int)+1))=some ((i+1:Nat):Int):=by rw [wrap_succ (by omega)]
     refine cnd_t (decide_eq_true (by omega)) (bndL (s:=false) (bnd (chrD hi) ?_) (cnd_f rfl (bnd w2 rfl)))
     by_cases h46:(sbytes s).getD i 0=46
     ·refine cnd_t (by rw [h46]; rfl) (bnd w (bnd (prev i hi h46) ?_))
      have hp:(0::sbytes s).getD i 0≠46:=by
       simp only [q,qLoc,if_pos h46,decide_eq_true_eq] at hq
       exact hq
      exact cnd_f (by simpa using hp) (bnd (chrD hi) (cnd_f (by rw [h46]; rfl) rfl))
     ·refine cnd_f (by simpa using h46) (bnd (chrD hi) (cnd_t (by simpa using h46) (bnd (chrD hi) (bnd (rsign (getD_byte s hi)) ?_))))
      simp only [q,qLoc,if_neg h46] at hq
      rw [hq]; rfl
    ·intro i hi hq
     have w:some (IntKind.i64.wrap ((i:Int)-1))=some ((i:Int)-1):=wrap_i (by omega) (by omega)
     refine cnd_t (decide_eq_true (by omega)) (bndL (s:=true) (bnd (chrD hi) ?_) (cnd_t rfl rfl))
     by_cases h46:(sbytes s).getD i 0=46
     ·refine cnd_t (by rw [h46]; rfl) (bnd w (bnd (prev i hi h46) ?_))
      have hp:(0::sbytes s).getD i 0=46:=by
       simp only [q,qLoc,if_pos h46,decide_eq_false_iff_not,ne_eq] at hq
       exact Decidable.not_not.1 hq
      exact cnd_t (by rw [hp]; rfl) rfl
     ·refine cnd_f (by simpa using h46) (bnd (chrD hi) (cnd_t (by simpa using h46) (bnd (chrD hi) (bnd (rsign (getD_byte s hi)) ?_))))
      simp only [q,qLoc,if_neg h46] at hq
      rw [hq]; rfl
    ·exact cnd_f (decide_eq_false (by omega)) rfl
    ·by_cases hall:∀ i,i<s.size→q i=true
     ·rw [if_pos hall,decide_eq_true hall]; rfl
     ·rw [if_neg hall,decide_eq_false hall]; rfl
 ·have hn:(decide ((1:Int)≤(s.size:Int))&&decide ((s.size:Int)≤64))=false:=by
   by_cases h1:1≤s.size
   ·rw [decide_eq_true (by omega),decide_eq_false (by omega)]; rfl
   ·rw [decide_eq_false (by omega)]; rfl
  have hin:=in_eq (s.size:Int) 1 64
  rw [hn] at hin
  refine bndL (s:=true) (bnd hin rfl) (cnd_t rfl ?_)
  by_cases h1:1≤s.size
  ·rw [decide_eq_false (by omega)]; rfl
  ·have:sbytes s=[]:=List.eq_nil_of_length_eq_zero (by rw [sbytes_len]; omega)
   rw [this]
   simp [spl,atmB]
theorem rpath_eq (p:T_Path):wherryref11_Path p=some (patB p):=by
 unfold wherryref11_Path patB
 rw [isE,isE]
 cases hn:p.Null
 ·refine cnd_f rfl (bndL (s:=locB (sbytes p.Local)&&domB (sbytes p.Domain)) (bnd (rloc_eq p.Local) ?_) rfl)
  cases locB (sbytes p.Local)
  ·rfl
  ·exact cnd_t rfl (bnd (rdom_eq p.Domain) rfl)
 ·refine cnd_t rfl (bndL (s:=(sbytes p.Local).isEmpty&&(sbytes p.Domain).isEmpty) ?_ rfl)
  cases (sbytes p.Local).isEmpty <;> rfl
theorem rtext_eq (p:T_Path) (h:Small p):wherryref11_Text p=some (bstr (txtL p)):=by
 unfold wherryref11_Text txtL
 cases hn:p.Null
 ·exact cnd_f rfl (cats p h _ _ rfl)
 ·exact cnd_t rfl rfl
def okb:Int→List Int→Prop
 | _,[]=>True
 | p,x::l=>(x=13→l.head? = some 10)∧(x=10→p=13)∧okb x l
theorem okb_line:∀ (b:List Int) (p:Int),okb p b→p≠13→b.getLast? = some 10→∃ l r,b=l++13::10::r∧cln l∧okb 10 r∧(r=[]∨r.getLast? = some 10)
 | [],p,_,_,h=>by simp at h
 | x::t,p,h,hp,hl=>by
  obtain ⟨h1,h2,h3⟩:=h
  by_cases hx:x=13
  ·subst hx
   cases t with
   | nil=>simp at hl
   | cons y r =>
    have hy:=h1 rfl
    simp at hy
    subst hy
    refine ⟨[],r,rfl,fun z hz=>by simp at hz,h3.2.2,?_⟩
    cases r with
    | nil=>exact .inl rfl
    | cons z r=>right; rw [List.getLast?_cons_cons,List.getLast?_cons_cons] at hl; exact hl
  ·have hx2:x≠10:=fun e=>hp (h2 e)
   cases t with
   | nil=>simp at hl; exact absurd hl hx2
   | cons y t =>
    rw [List.getLast?_cons_cons] at hl
    obtain ⟨l,r,e,hc,ho,hr⟩:=okb_line (y::t) x h3 hx hl
    refine ⟨x::l,r,by rw [e]; rfl,fun z hz => ?_,ho,hr⟩
    rcases List.mem_cons.1 hz with rfl | hz
    ·exact ⟨hx,hx2⟩
    ·exact hc z hz
theorem okb_lines:∀ (n:Nat) (b:List Int) (p:Int),b.length≤n→okb p b→p≠13→(b=[]∨b.getLast? = some 10)→∃ ls,(∀ l∈ls,cln l)∧b=jn ls
 | 0,b,p,hn,_,_,_=>⟨[],fun l hl=>by simp at hl,by cases b with | nil=>rfl | cons=>simp at hn⟩
 | n+1,b,p,hn,ho,hp,hl=>by
  rcases hl with rfl | hl
  ·exact ⟨[],fun l hl=>by simp at hl,rfl⟩
  ·obtain ⟨l,r,e,hc,ho2,hr⟩:=okb_line b p ho hp hl
   obtain ⟨ls,h1,h2⟩:=okb_lines n r 10 (by rw [e] at hn; simp at hn; omega) ho2 (by decide) hr
   refine ⟨l::ls,fun m hm => ?_,by rw [e,h2]; rfl⟩
   rcases List.mem_cons.1 hm with rfl | hm
   ·exact hc
   ·exact h1 m hm
def bad (b:List Int) (i:Nat):Bool:=if b[i]? = some 13 then decide (b[i+1]? ≠ some 10) else if b[i]? = some 10 then decide (i=0∨b[i-1]? ≠ some 13) else false
theorem okb_of:∀ (b:List Int) (p:Int),(∀ i,i<b.length→(b[i]? = some 13→b[i+1]? = some 10)∧(b[i]? = some 10→(if i=0 then some p else b[i-1]?)=some 13))→okb p b
 | [],_,_=>trivial
 | x::l,p,h=>by
  refine ⟨fun e => ?_,fun e => ?_,okb_of l x fun i hi => ?_⟩
  ·have:=(h 0 (by simp)).1 (by simp [e])
   cases l with
   | nil=>simp at this
   | cons y l=>simpa using this
  ·have:=(h 0 (by simp)).2 (by simp [e])
   simpa using this
  ·have:=h (i+1) (by simp; omega)
   refine ⟨fun e=>by simpa using this.1 (by simpa using e),fun e => ?_⟩
   have h2:=this.2 (by simpa using e)
   rw [if_neg (by omega)] at h2
   cases i with
   | zero=>simpa using h2
   | succ i=>simpa using h2
theorem bad_no {b:List Int} (h:∀ i,i<b.length→(!bad b i)=true):okb 0 b:=by
 refine okb_of b 0 fun i hi => ?_
 have h1:=h i hi
 simp only [bad,Bool.not_eq_true'] at h1
 refine ⟨fun e => ?_,fun e => ?_⟩
 ·rw [if_pos e,decide_eq_false_iff_not,Classical.not_not] at h1; exact h1
 ·rw [e] at h1
  rw [if_neg (by simp),if_pos rfl,decide_eq_false_iff_not,not_or,Classical.not_not] at h1
  rw [if_neg h1.1]; exact h1.2
theorem get_of {b:List Int} {i:Nat} (h:i<b.length):b[i]? = some b[i]:=List.getElem?_eq_getElem h
theorem body_step (b:List Int) {i:Nat} (hi:i<b.length) (hl:b.length<4611686018427387904) :
  ((ixO (i:Int) b.length).bind fun v2 =>
     (getO b v2).bind fun v3 =>
     cond ((v3==13))
      ((some (IntKind.i64.wrap ((i:Int)+1))).bind fun v4 =>
      cond ((decide ((b.length:Int)≤v4)))
       (some (.inl true))
       ((some (IntKind.i64.wrap ((i:Int)+1))).bind fun v5 =>
       (ixO v5 b.length).bind fun v6 =>
       (getO b v6).bind fun v7 =>
       cond ((v7 != 10))
        (some (.inl true))
        ((ixO (i:Int) b.length).bind fun v8 =>
        (getO b v8).bind fun v9 =>
        cond ((v9==10))
         (cond (((i:Int)==0))
          (some (.inl true))
          ((some (IntKind.i64.wrap ((i:Int)-1))).bind fun v10 =>
          (ixO v10 b.length).bind fun v11 =>
          (getO b v11).bind fun v12 =>
          some (.inl (v12 != 13))))
         (some (.inl false)))))
      ((ixO (i:Int) b.length).bind fun v13 =>
      (getO b v13).bind fun v14 =>
      cond ((v14==10))
       (cond (((i:Int)==0))
        (some (.inl true))
        ((some (IntKind.i64.wrap ((i:Int)-1))).bind fun v15 =>
        (ixO v15 b.length).bind fun v16 =>
        (getO b v16).bind fun v17 =>
        some (.inl (v17 != 13))))
       (some (.inl false))):Option (Bool⊕((Int)⊕((Unit)⊕Bool))))=some (.inl (bad b i)):=by
 have e0:some (IntKind.i64.wrap ((i:Int)+1))=some ((i+1:Nat):Int):=by rw [wrap_j (by omega) (by omega)]; simp
 refine bnd (ixO_of hi) (bnd (getO_of hi) ?_)
 by_cases h13:b[i]=13
 ·refine cnd_t (by rw [h13]; rfl) (bnd e0 ?_)
  unfold bad
  rw [get_of hi,if_pos (by rw [h13])]
  by_cases hn:i+1<b.length
  ·refine cnd_f (decide_eq_false (by omega)) (bnd e0 (bnd (ixO_of hn) (bnd (getO_of hn) ?_)))
   rw [get_of hn]
   by_cases h10:b[i+1]=10
   ·refine cnd_f (by rw [h10]; rfl) (bnd (ixO_of hi) (bnd (getO_of hi) (cnd_f (by rw [h13]; rfl) ?_)))
    simp [h10]
   ·refine cnd_t (by simpa using h10) ?_
    simp [h10]
  ·refine cnd_t (decide_eq_true (by omega)) ?_
   rw [List.getElem?_eq_none (by omega)]; rfl
 ·refine cnd_f (by simpa using h13) (bnd (ixO_of hi) (bnd (getO_of hi) ?_))
  unfold bad
  rw [get_of hi,if_neg (by simpa using h13)]
  by_cases h10:b[i]=10
  ·refine cnd_t (by rw [h10]; rfl) ?_
   rw [if_pos (by rw [h10])]
   cases i with
   | zero=>rfl
   | succ i =>
    refine cnd_f (by rw [beq_eq_false_iff_ne]; omega) (bnd (x:=((i:Nat):Int)) (by rw [wrap_j (by omega) (by omega)]; simp) (bnd (ixO_of (by omega)) (bnd (getO_of (by omega)) ?_)))
    rw [show i+1-1=i by omega,get_of (by omega)]
    congr 2
    rw [Bool.eq_iff_iff,bne_iff_ne,decide_eq_true_eq]
    simp
  ·refine cnd_f (by simpa using h10) ?_
   rw [if_neg (by simpa using h10)]
theorem body_any (b:List Int) (hb:byt b) (hl:b.length<4294967281):wherryref11_Body b=some false∨(wherryref11_Body b=some true∧∃ ls,(∀ l∈ls,cln l)∧(∀ l∈ls,byt l)∧b=jn ls):=by
 have hloop:=loop_all (R:=Bool) (f:=fun (s31:Int)=>cond ((decide (s31<(b.length:Int))))
    (bindS (S:=Bool) (A:=((Int)⊕((Unit)⊕Bool)))
     ((ixO s31 b.length).bind fun v2 =>
     (getO b v2).bind fun v3 =>
     cond ((v3==13))
      ((some (IntKind.i64.wrap (s31+1))).bind fun v4 =>
      cond ((decide ((b.length:Int)≤v4)))
       (some (.inl true))
       ((some (IntKind.i64.wrap (s31+1))).bind fun v5 =>
       (ixO v5 b.length).bind fun v6 =>
       (getO b v6).bind fun v7 =>
       cond ((v7 != 10))
        (some (.inl true))
        ((ixO s31 b.length).bind fun v8 =>
        (getO b v8).bind fun v9 =>
        cond ((v9==10))
         (cond ((s31==0))
          (some (.inl true))
          ((some (IntKind.i64.wrap (s31-1))).bind fun v10 =>
          (ixO v10 b.length).bind fun v11 =>
          (getO b v11).bind fun v12 =>
          some (.inl (v12 != 13))))
         (some (.inl false)))))
      ((ixO s31 b.length).bind fun v13 =>
      (getO b v13).bind fun v14 =>
      cond ((v14==10))
       (cond ((s31==0))
        (some (.inl true))
        ((some (IntKind.i64.wrap (s31-1))).bind fun v15 =>
        (ixO v15 b.length).bind fun v16 =>
        (getO b v16).bind fun v17 =>
        some (.inl (v17 != 13))))
       (some (.inl false))))
     (fun (s45:Bool) =>
      cond (s45)
       (some (.inr (.inr (false))))
       ((some (IntKind.i64.wrap (s31+1))).bind fun v23 =>
       some (.inl v23))) some)
    (some (.inr (.inl ())))) (fun i => !bad b i) b.length false (fuel:=BIG) (by unfold BIG; omega)
  (fun i hi hp=>cnd_t (decide_eq_true (by omega)) (bndL (s:=bad b i) (body_step b hi (by omega)) (cnd_f (by simpa using hp) (bnd (some_wrap (by omega) (by omega)) rfl))))
  (fun i hi hp=>cnd_t (decide_eq_true (by omega)) (bndL (s:=bad b i) (body_step b hi (by omega)) (cnd_t (by simpa using hp) rfl)))
  (cnd_f (decide_eq_false (by omega)) rfl)
 by_cases hall:∀ i,i<b.length→(!bad b i)=true
 ·rw [if_pos hall] at hloop
  have ho:=bad_no hall
  cases hbn:b with
  | nil=>right; subst hbn; exact ⟨rfl,[],fun l hl=>by simp at hl,fun l hl=>by simp at hl,rfl⟩
  | cons y t =>
   rw [← hbn]
   have hpos:0<b.length:=by rw [hbn]; simp
   have hlast:b.getLast? = some (b[b.length-1]'(by omega)):=by rw [List.getLast?_eq_getElem?,get_of (by omega)]
   have key:wherryref11_Body b=some (b[b.length-1]'(by omega)==10):=by
    unfold wherryref11_Body
    refine bndL (s:=()) hloop (bndL (s:=(b[b.length-1]'(by omega)==10)) (cnd_f (by rw [beq_eq_false_iff_ne]; omega) (bnd (x:=((b.length-1:Nat):Int)) (by rw [wrap_j (by omega) (by omega)]; congr 1; omega) (bnd (ixO_of (by omega)) (bnd (getO_of (by omega)) rfl)))) rfl)
   by_cases h10:b[b.length-1]'(by omega)=10
   ·right
    rw [key,h10]
    obtain ⟨ls,h1,h2⟩:=okb_lines b.length b 0 (Nat.le_refl _) ho (by decide) (.inr (by rw [hlast,h10]))
    exact ⟨rfl,ls,h1,byt_jn (by rw [← h2]; exact hb),h2⟩
   ·left
    rw [key,beq_eq_false_iff_ne.2 h10]
 ·rw [if_neg hall] at hloop
  left
  unfold wherryref11_Body
  exact bndR (a:=false) hloop rfl
theorem rdig_go:∀ (k n:Nat) (acc:List Int) (fuel:Nat),n<10 ^ (k+1)→n<9000000000000000000→k<fuel→byt acc→acc.length+k<1000 →
   bindS (S:=(Int×ByteArray)) (A:=ByteArray)
  (loopF (S:=(Int×ByteArray)) (O:=(Int×ByteArray)⊕ByteArray) (fun ((s11,s12):Int×ByteArray) =>
   cond ((decide (9<s11)))
    ((remO s11 10).bind fun v2 =>
    (remO s11 10).bind fun v3 =>
    (some (IntKind.i64.wrap (v3+1))).bind fun v4 =>
    (subO (⟨#[48,49,50,51,52,53,54,55,56,57]⟩:ByteArray) v2 v4).bind fun v5 =>
    (catO v5 s12).bind fun v6 =>
    (quoO .i64 s11 10).bind fun v7 =>
    some (.inl (v7,v6)))
    (some (.inr (.inl (s11,s12)))))
   fuel ((n:Int),bstr acc))
  (fun ((s14,s15):Int×ByteArray) =>
   (some (IntKind.i64.wrap (s14+1))).bind fun v23 =>
   (subO (⟨#[48,49,50,51,52,53,54,55,56,57]⟩:ByteArray) s14 v23).bind fun v24 =>
   (catO v24 s15).bind fun v25 =>
   some (v25)) some=some (bstr (dgA k n acc)):=by
  intro k
  induction k with
  | zero =>
   intro n acc fuel hn _ hf hb hl
   cases fuel with
   | zero=>omega
   | succ fuel =>
    have h9:n≤9:=by simp at hn; omega
    unfold dgA
    exact bndL (loop_exit (cnd_f (decide_eq_false (by omega)) rfl)) (bnd (by rw [wrap_succ (by omega)]) (bnd (tenT_of (by omega)) (bnd (catL (sbytes_bstr (byt_dg h9)) (sbytes_bstr hb) (by simp; omega)) rfl)))
  | succ k ih =>
   intro n acc fuel hn hbig hf hb hl
   cases fuel with
   | zero=>omega
   | succ fuel =>
    by_cases h9:n≤9
    ·unfold dgA
     rw [if_pos h9]
     exact bndL (loop_exit (cnd_f (decide_eq_false (by omega)) rfl)) (bnd (by rw [wrap_succ (by omega)]) (bnd (tenT_of (by omega)) (bnd (catL (sbytes_bstr (byt_dg h9)) (sbytes_bstr hb) (by simp; omega)) rfl)))
    ·have hd:byt [48+((n % 10:Nat):Int)]:=byt_cons (by omega) byt_nil
     have hr:remO (n:Int) 10=some ((n % 10:Nat):Int):=rem_nat n 10 (by decide)
     have hq:quoO .i64 (n:Int) 10=some ((n / 10:Nat):Int):=quo_nat n 10 (by decide) (by omega)
     have hn2:n / 10<10 ^ (k+1):=by rw [Nat.pow_succ] at hn; omega
     have hih:=ih (n / 10) ((48+((n % 10:Nat):Int))::acc) fuel hn2 (by omega) (by omega) (byt_cons (by omega) hb) (by simp; omega)
     have e:dgA (k+1) n acc=dgA k (n / 10) ((48+((n % 10:Nat):Int))::acc):=by rw [dgA,if_neg h9]
     rw [e,← hih]
     congr 1
     exact loop_next (cnd_t (decide_eq_true (by omega)) (bnd hr (bnd hr (bnd (by rw [wrap_succ (by omega)]) (bnd (tenT_of (by omega)) (bnd (catL (sbytes_bstr hd) (sbytes_bstr hb) (by simp; omega)) (bnd hq rfl)))))))
theorem rdig_eq (k n:Nat) (h:n<10 ^ (k+1)) (h2:n<9000000000000000000) (hk:k<900):wherryref11_Digits (n:Int)=some (bstr (dgA k n [])) :=
 rdig_go k n [] BIG h h2 (by unfold BIG; omega) byt_nil (by simpa using by omega)
end Go.Abs.Sh
