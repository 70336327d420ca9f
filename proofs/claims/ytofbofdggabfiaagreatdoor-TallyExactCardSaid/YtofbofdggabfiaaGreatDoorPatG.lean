import Derived.Test.YtofbofdggabfiaaGreatDoorPatC
namespace Go.Abs.Sh
set_option linter.unusedVariables false
set_option linter.unusedSimpArgs false
theorem in_eq (n lo hi:Int):wherryref11_in n lo hi=some (decide (lo≤n)&&decide (n≤hi)):=by
 unfold wherryref11_in
 cases decide (lo≤n) <;> rfl
def letB (c:Int):Bool:=decide (97≤c)&&decide (c≤122)||decide (65≤c)&&decide (c≤90)
def digB (c:Int):Bool:=decide (48≤c)&&decide (c≤57)
theorem rletter (c:Int):wherryref11_letter c=some (letB c):=by
 unfold wherryref11_letter letB
 cases decide (97≤c) <;> cases decide (c≤122) <;> cases decide (65≤c) <;> cases decide (c≤90) <;> rfl
theorem rdigit (c:Int):wherryref11_digit c=some (digB c):=by
 unfold wherryref11_digit digB
 cases decide (48≤c) <;> rfl
theorem lb_or (c:Int):lbB c=(letB c||(digB c||c==45)):=by
 unfold lbB alB letB digB
 cases decide (97≤c) <;> cases decide (c≤122) <;> cases decide (65≤c) <;> cases decide (c≤90) <;> cases decide (48≤c) <;> cases decide (c≤57) <;> simp
def chkR (q:Int→Int→Bool):Int→List Int→Bool
 | _,[]=>true
 | p,x::r=>q p x&&chkR q x r
theorem chkR_iff (q:Int→Int→Bool):∀ (l:List Int) (p:Int),(∀ i,i<l.length→q ((p::l).getD i 0) (l.getD i 0)=true)↔chkR q p l=true
 | [],p=>by simp [chkR]
 | x::r,p=>by
  unfold chkR
  rw [Bool.and_eq_true,← chkR_iff q r x]
  constructor
  ·intro h
   exact ⟨by simpa using h 0 (by simp),fun i hi=>by simpa using h (i+1) (by simpa using hi)⟩
  ·rintro ⟨h0,h1⟩ i hi
   cases i with
   | zero=>simpa using h0
   | succ i=>simpa using h1 i (by simpa using hi)
def labE (l:List Int):Bool:=decide (1≤l.length)&&(decide (l.length≤63)&&(l.getD 0 0 != 45&&l.getD (l.length-1) 0 != 45))
theorem labB_E (l:List Int):labB l=(labE l&&l.all lbB):=by
 unfold labB labE
 cases l with
 | nil=>rfl
 | cons x r =>
  rw [last_getD (by simp),head_getD (by simp)]
  have:decide (1≤(x::r).length)=true:=by simp
  rw [this]
  simp only [List.isEmpty_cons,Bool.not_false,Bool.true_and]
  have e1:(some ((x::r).getD 0 0) != some 45)=((x::r).getD 0 0 != 45):=by rw [Bool.eq_iff_iff]; simp
  have e2:(some ((x::r).getD ((x::r).length-1) 0) != some 45)=((x::r).getD ((x::r).length-1) 0 != 45):=by rw [Bool.eq_iff_iff]; simp
  rw [e1,e2]
  simp only [Bool.and_assoc]
def domG:List Int→List Int→Bool
 | cur,[]=>labE cur
 | cur,x::r=>if x=46 then labE cur&&domG [] r else lbB x&&domG (cur++[x]) r
theorem domG_spl:∀ (l cur:List Int),cur.all lbB=true→domG cur l=match spl 46 l with
  | []=>true
  | a::ps=>labB (cur++a)&&ps.all labB
 | [],cur,h=>by simp [domG,spl,labB_E,h]
 | x::r,cur,h=>by
  have hne:=spl_ne 46 r
  unfold domG spl
  by_cases hx:x=46
  ·rw [if_pos hx,if_pos hx,domG_spl r [] rfl]
   cases hs:spl 46 r with
   | nil=>exact absurd hs hne
   | cons a ps=>simp [labB_E,h]
  ·rw [if_neg hx,if_neg hx]
   cases hs:spl 46 r with
   | nil=>exact absurd hs hne
   | cons a ps =>
    cases hl:lbB x
    ·simp [labB_E,hl]
    ·have:=domG_spl r (cur++[x]) (by simp [h,hl])
     rw [this,hs]
     simp
theorem dom_G (l:List Int):(spl 46 l).all labB=domG [] l:=by
 rw [domG_spl l [] rfl]
 cases hs:spl 46 l with
 | nil=>exact absurd hs (spl_ne 46 l)
 | cons a ps=>simp
def rdomS (s:ByteArray):Int×Int→Option ((Int×Int)⊕(Unit⊕Bool)):=(fun ((s88,s89):Int×Int) =>
    cond ((decide (s89≤(s.size:Int))))
     (bindS (S:=Int) (A:=((Int×Int)⊕((Unit)⊕Bool)))
      (bindS (S:=Bool) (A:=(Int⊕((Int×Int)⊕((Unit)⊕Bool))))
       (cond ((decide (s89<(s.size:Int))))
        ((chrO s s89).bind fun v4 =>
        some (.inl (v4 != 46)))
        (some (.inl false)))
       (fun (s151:Bool) =>
        cond (s151)
         (bindS (S:=Bool) (A:=(Int⊕((Int×Int)⊕((Unit)⊕Bool))))
          ((chrO s s89).bind fun v10 =>
          (wherryref11_letter v10).bind fun v11 =>
          cond ((!v11))
           ((chrO s s89).bind fun v12 =>
           (wherryref11_digit v12).bind fun v13 =>
           cond ((!v13))
            ((chrO s s89).bind fun v14 =>
            some (.inl (v14 != 45)))
            (some (.inl false)))
           (some (.inl false)))
          (fun (s156:Bool) =>
           cond (s156)
            (some (.inr (.inr (.inr (false)))))
            (some (.inl s88))) some)
         (bindS (S:=Bool) (A:=(Int⊕((Int×Int)⊕((Unit)⊕Bool))))
          ((some (IntKind.i64.wrap (s89-s88))).bind fun v20 =>
          (wherryref11_in v20 1 63).bind fun v21 =>
          cond ((!v21))
           (some (.inl true))
           ((chrO s s88).bind fun v22 =>
           cond ((v22==45))
            (some (.inl true))
            ((some (IntKind.i64.wrap (s89-1))).bind fun v23 =>
            (chrO s v23).bind fun v24 =>
            some (.inl (v24==45)))))
          (fun (s161:Bool) =>
           cond (s161)
            (some (.inr (.inr (.inr (false)))))
            ((some (IntKind.i64.wrap (s89+1))).bind fun v30 =>
            some (.inl v30))) some)) some)
      (fun (s147:Int) =>
       (some (IntKind.i64.wrap (s89+1))).bind fun v50 =>
       some (.inl (s147,v50))) some)
     (some (.inr (.inl ()))))
theorem rlab {R:Type} (s:ByteArray) (f i:Nat) (cur:List Int) (hi:i≤s.size) (hs:s.size<4611686018427387904) (hl:f+cur.length=i) (hc:∀ j,j<cur.length→(sbytes s).getD (f+j) 0=cur.getD j 0) (A:Option (R⊕((Int×Int)⊕(Unit⊕Bool)))) (B:Option (R⊕((Int×Int)⊕(Unit⊕Bool)))) :
  (bindS (S:=Bool) (A:=(R⊕((Int×Int)⊕((Unit)⊕Bool))))
          ((some (IntKind.i64.wrap ((i:Int)-(f:Int)))).bind fun v20 =>
          (wherryref11_in v20 1 63).bind fun v21 =>
          cond ((!v21))
           (some (.inl true))
           ((chrO s (f:Int)).bind fun v22 =>
           cond ((v22==45))
            (some (.inl true))
            ((some (IntKind.i64.wrap ((i:Int)-1))).bind fun v23 =>
            (chrO s v23).bind fun v24 =>
            some (.inl (v24==45)))))
          (fun (s161:Bool) =>
           cond (s161) A B) some)=cond (labE cur) B A:=by
 have w:some (IntKind.i64.wrap ((i:Int)-(f:Int)))=some (cur.length:Int):=by rw [wrap_i (by omega) (by omega)]; congr 1; omega
 have hin:=in_eq (cur.length:Int) 1 63
 unfold labE
 by_cases h1:1≤cur.length
 ·by_cases h2:cur.length≤63
  ·rw [decide_eq_true (by omega),decide_eq_true (by omega)] at hin
   rw [decide_eq_true h1,decide_eq_true h2]
   have c0:=chrD (s:=s) (i:=f) (by omega)
   have e0:=hc 0 (by omega)
   rw [Nat.add_zero] at e0
   rw [e0] at c0
   have c1:=chrD (s:=s) (i:=i-1) (by omega)
   have e1:=hc (cur.length-1) (by omega)
   rw [show f+(cur.length-1)=i-1 by omega] at e1
   rw [e1,show ((i-1:Nat):Int)=(i:Int)-1 by omega] at c1
   by_cases h3:cur.getD 0 0=45
   ·refine bndL (s:=true) (bnd w (bnd hin (cnd_f rfl (bnd c0 (cnd_t (by rw [h3]; rfl) rfl))))) ?_
    rw [h3]; rfl
   ·have x3:(cur.getD 0 0==45)=false:=by simpa using h3
    have y3:(cur.getD 0 0 != 45)=true:=by simpa using h3
    refine bndL (s:=(cur.getD (cur.length-1) 0==45)) (bnd w (bnd hin (cnd_f rfl (bnd c0 (cnd_f x3 (bnd (wrap_i (by omega) (by omega)) (bnd c1 rfl))))))) ?_
    rw [y3]
    unfold bne
    cases (cur.getD (cur.length-1) 0==45) <;> rfl
  ·rw [decide_eq_true (by omega),decide_eq_false (by omega)] at hin
   rw [decide_eq_true h1,decide_eq_false h2]
   exact bndL (s:=true) (bnd w (bnd hin rfl)) rfl
 ·rw [decide_eq_false (by omega)] at hin
  rw [decide_eq_false h1]
  exact bndL (s:=true) (bnd w (bnd hin rfl)) rfl
theorem rdom_loop (s:ByteArray) (hs:s.size<4611686018427387904):∀ (rest cur:List Int) (f i fuel:Nat),f+cur.length=i→(sbytes s).drop i=rest→i≤s.size→(∀ j,j<cur.length→(sbytes s).getD (f+j) 0=cur.getD j 0)→rest.length+1<fuel →
  loopF (rdomS s) fuel ((f:Int),(i:Int))=some (if domG cur rest=true then .inl () else .inr false)
 | [],cur,f,i,fuel,hl,hd,hi,hc,hf=>by
  have hi2:i=s.size:=by
   have:=congrArg List.length hd
   rw [List.length_drop,sbytes_len] at this
   simp at this; omega
  obtain ⟨k,rfl⟩:∃ k,fuel=k+1+1:=⟨fuel-2,by simp at hf; omega⟩
  have hr:=rlab (R:=Int) s f i cur hi hs hl hc (some (.inr (.inr (.inr false)))) ((some (IntKind.i64.wrap ((i:Int)+1))).bind fun v30=>some (.inl v30))
  have w:some (IntKind.i64.wrap ((i:Int)+1))=some ((i+1:Nat):Int):=by rw [wrap_succ (by omega)]
  have hd0:domG cur []=labE cur:=rfl
  rw [hd0]
  cases hlab:labE cur
  ·rw [hlab,cond_false] at hr
   rw [loop_exit (o := .inr false)]
   ·rfl
   ·unfold rdomS
    exact cnd_t (decide_eq_true (by omega)) (bndR (a := .inr (.inr false)) (bndL (s:=false) (cnd_f (decide_eq_false (by omega)) rfl) (cnd_f rfl hr)) rfl)
  ·rw [hlab,cond_true] at hr
   rw [loop_next (s':=(((i+1:Nat):Int),((i+1:Nat):Int))),loop_exit (o := .inl ())]
   ·rfl
   ·unfold rdomS
    exact cnd_f (decide_eq_false (by omega)) rfl
   ·unfold rdomS
    exact cnd_t (decide_eq_true (by omega)) (bndL (s:=((i+1:Nat):Int)) (bndL (s:=false) (cnd_f (decide_eq_false (by omega)) rfl) (cnd_f rfl (hr.trans (bnd w rfl)))) (bnd w rfl))
 | x::rest,cur,f,i,fuel,hl,hd,hi,hc,hf=>by
  have hlt:i<s.size:=by
   have:=congrArg List.length hd
   rw [List.length_drop,sbytes_len] at this
   simp at this; omega
  have hx:(sbytes s).getD i 0=x:=by
   have:=congrArg List.head? hd
   rw [List.head?_drop] at this
   rw [List.getD_eq_getElem?_getD,this]; rfl
  have hd2:(sbytes s).drop (i+1)=rest:=by
   rw [← List.drop_drop,hd]; rfl
  obtain ⟨k,rfl⟩:∃ k,fuel=k+1:=⟨fuel-1,by omega⟩
  have hchr:=chrD hlt
  rw [hx] at hchr
  have w:some (IntKind.i64.wrap ((i:Int)+1))=some ((i+1:Nat):Int):=by rw [wrap_succ (by omega)]
  have lt:decide ((i:Int)≤(s.size:Int))=true:=decide_eq_true (by omega)
  have lt2:decide ((i:Int)<(s.size:Int))=true:=decide_eq_true (by omega)
  unfold domG
  by_cases h46:x=46
  ·rw [if_pos h46]
   have hr:=rlab (R:=Int) s f i cur hi hs hl hc (some (.inr (.inr (.inr false)))) ((some (IntKind.i64.wrap ((i:Int)+1))).bind fun v30=>some (.inl v30))
   cases hlab:labE cur
   ·rw [hlab,cond_false] at hr
    rw [loop_exit (o := .inr false)]
    ·rfl
    ·unfold rdomS
     exact cnd_t lt (bndR (a := .inr (.inr false)) (bndL (s:=false) (cnd_t lt2 (bnd hchr (by rw [h46]; rfl))) (cnd_f rfl hr)) rfl)
   ·rw [hlab,cond_true] at hr
    rw [loop_next (s':=(((i+1:Nat):Int),((i+1:Nat):Int)))]
    ·rw [Bool.true_and]
     exact rdom_loop s hs rest [] (i+1) (i+1) k (by simp) hd2 (by omega) (by simp) (by simp at hf; omega)
    ·unfold rdomS
     exact cnd_t lt (bndL (s:=((i+1:Nat):Int)) (bndL (s:=false) (cnd_t lt2 (bnd hchr (by rw [h46]; rfl))) (cnd_f rfl (hr.trans (bnd w rfl)))) (bnd w rfl))
  ·rw [if_neg h46]
   have hx46:(x != 46)=true:=by simpa using h46
   have hlb:=lb_or x
   have hin:((chrO s (i:Int)).bind fun v10 =>
          (wherryref11_letter v10).bind fun v11 =>
          cond ((!v11))
           ((chrO s (i:Int)).bind fun v12 =>
           (wherryref11_digit v12).bind fun v13 =>
           cond ((!v13))
            ((chrO s (i:Int)).bind fun v14 =>
            some (Sum.inl (β:=(Int⊕((Int×Int)⊕((Unit)⊕Bool)))) (v14 != 45)))
            (some (.inl false)))
           (some (.inl false)))=some (.inl (!lbB x)):=by
    rw [hlb]
    refine bnd hchr (bnd (rletter x) ?_)
    cases letB x
    ·refine cnd_t rfl (bnd hchr (bnd (rdigit x) ?_))
     cases digB x
     ·exact cnd_t rfl (bnd hchr rfl)
     ·rfl
    ·rfl
   cases hl1:lbB x
   ·rw [hl1] at hin
    rw [loop_exit (o := .inr false)]
    ·rfl
    ·unfold rdomS
     exact cnd_t lt (bndR (a := .inr (.inr false)) (bndL (s:=true) (cnd_t lt2 (bnd hchr (by rw [hx46]))) (cnd_t rfl (bndL (s:=true) hin rfl))) rfl)
   ·rw [hl1] at hin
    rw [loop_next (s':=((f:Int),((i+1:Nat):Int)))]
    ·rw [Bool.true_and]
     refine rdom_loop s hs rest (cur++[x]) f (i+1) k (by simp; omega) hd2 (by omega) (fun j hj => ?_) (by simp at hf; omega)
     simp at hj
     by_cases hj2:j<cur.length
     ·rw [hc j hj2,List.getD_eq_getElem?_getD,List.getD_eq_getElem?_getD,List.getElem?_append_left hj2]
     ·have hj3:j=cur.length:=by omega
      subst hj3
      rw [hl,hx]
      simp
    ·unfold rdomS
     exact cnd_t lt (bndL (s:=(f:Int)) (bndL (s:=true) (cnd_t lt2 (bnd hchr (by rw [hx46]))) (cnd_t rfl (bndL (s:=false) hin rfl))) (bnd w rfl))
theorem rdom_eq (s:ByteArray):wherryref11_Domain s=some (domB (sbytes s)):=by
 unfold wherryref11_Domain domB
 rw [sbytes_len]
 have hin:=in_eq (s.size:Int) 1 255
 by_cases h:1≤s.size∧s.size≤255
 ·rw [decide_eq_true (by omega),decide_eq_true (by omega)] at hin
  refine bnd hin (cnd_f rfl ?_)
  rw [decide_eq_true h.2,Bool.true_and,dom_G]
  have:=rdom_loop s (by omega) (sbytes s) [] 0 0 BIG rfl rfl (by omega) (by simp) (by rw [sbytes_len]; unfold BIG; omega)
  change bindS (loopF (rdomS s) BIG ((0:Nat),(0:Nat))) _ _=_
  rw [this]
  cases domG [] (sbytes s) <;> rfl
 ·have hn:(decide ((1:Int)≤(s.size:Int))&&decide ((s.size:Int)≤255))=false:=by
   by_cases h1:1≤s.size
   ·rw [decide_eq_true (by omega),decide_eq_false (by omega)]; rfl
   ·rw [decide_eq_false (by omega)]; rfl
  rw [hn] at hin
  refine bnd hin (cnd_t rfl ?_)
  by_cases h1:1≤s.size
  ·rw [decide_eq_false (by omega)]; rfl
  ·have:sbytes s=[]:=List.eq_nil_of_length_eq_zero (by rw [sbytes_len]; omega)
   rw [this]
   simp [spl,labB]
end Go.Abs.Sh
