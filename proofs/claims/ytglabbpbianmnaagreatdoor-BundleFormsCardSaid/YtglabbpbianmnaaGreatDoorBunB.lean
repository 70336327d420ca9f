import Derived.Test.YtglabbpbianmnaaGreatDoorPatC
import Derived.Test.YtglabbpbianmnaaGreatDoorDotA
import Derived.Test.YtglabbpbianmnaaGreatDoorKeepM
import Derived.Test.YtglabbpbianmnaaGreatDoorLoopM
import Derived.KernelRfl
namespace Go.Abs.Sh
set_option linter.unusedVariables false
set_option linter.unusedSimpArgs false
set_option maxRecDepth 10000
def txtL (p:T_Path):List Int:=cond p.Null [60,62] (60::(sbytes p.Local++64::(sbytes p.Domain++[62])))
theorem byt_cons {c:Int} {l:List Int} (h:0≤c∧c<256) (hl:byt l):byt (c::l):=by
 intro x hx
 simp only [List.mem_cons] at hx
 rcases hx with rfl | hx
 ·exact h
 ·exact hl x hx
theorem byt_nil:byt []:=fun x hx=>by cases hx
theorem byt_txt (p:T_Path):byt (txtL p):=by
 unfold txtL
 cases p.Null
 ·exact byt_cons (by omega) (byt_app (byt_sbytes _) (byt_cons (by omega) (byt_app (byt_sbytes _) (byt_cons (by omega) byt_nil))))
 ·exact byt_cons (by omega) (byt_cons (by omega) byt_nil)
theorem catL {s t:ByteArray} {l m:List Int} (hl:sbytes s=l) (hm:sbytes t=m) (h:l.length+m.length≤9223372036854775807):catO s t=some (bstr (l++m)):=by
 subst hl hm
 rw [sbytes_len,sbytes_len] at h
 exact cat_of h
theorem cats (p:T_Path) (h:Small p) {R:Type} (f:ByteArray→Option R) (r:Option R) (hr:f (bstr (60::(sbytes p.Local++64::(sbytes p.Domain++[62]))))=r) :
  ((catO (⟨#[60]⟩:ByteArray) p.Local).bind fun v4 =>
   (catO v4 (⟨#[64]⟩:ByteArray)).bind fun v5 =>
   (catO v5 p.Domain).bind fun v6 =>
   (catO v6 (⟨#[62]⟩:ByteArray)).bind fun v7=>f v7)=r:=by
 have hl:=h.l; have hd:=h.d
 have bl:=byt_sbytes p.Local; have bd:=byt_sbytes p.Domain
 have b60:byt [60]:=byt_cons (by omega) byt_nil
 have b64:byt [64]:=byt_cons (by omega) byt_nil
 have k1:=catL (s:=⟨#[60]⟩) (t:=p.Local) sb60 rfl (by simp [sbytes_len]; omega)
 have k2:=catL (s:=bstr ([60]++sbytes p.Local)) (t:=⟨#[64]⟩) (m:=[64]) (sbytes_bstr (byt_app b60 bl)) rfl (by simp [sbytes_len]; omega)
 have k3:=catL (s:=bstr ([60]++sbytes p.Local++[64])) (t:=p.Domain) (sbytes_bstr (byt_app (byt_app b60 bl) b64)) rfl (by simp [sbytes_len]; omega)
 have k4:=catL (s:=bstr ([60]++sbytes p.Local++[64]++sbytes p.Domain)) (t:=⟨#[62]⟩) (m:=[62]) (sbytes_bstr (byt_app (byt_app (byt_app b60 bl) b64) bd)) rfl (by simp [sbytes_len]; omega)
 refine bnd k1 (bnd k2 (bnd k3 (bnd k4 ?_)))
 rw [← hr]
 congr 2
 simp
theorem text_eq (p:T_Path) (h:Small p):path_Text p=some (cond (patB p) (bstr (txtL p),0) (e0,5)):=by
 unfold path_Text
 refine bnd (check_eq p h) ?_
 cases hp:patB p
 ·exact cnd_t rfl rfl
 ·refine cnd_f rfl ?_
  unfold txtL
  cases hn:p.Null
  ·exact cnd_f rfl (cats p h _ _ rfl)
  ·exact cnd_t rfl rfl
theorem hasDot {x:List Int} (hb:byt x) (hl:x.length<4294967281):bytes_HasPrefix x [46]=some (decide (x.head? = some 46)):=by
 unfold bytes_HasPrefix
 cases x with
 | nil=>rfl
 | cons y x =>
  refine bndL (s:=decide (y=46)) (cnd_t (decide_eq_true (by simp only [List.length_cons,List.length_nil]; omega)) ?_) (by simp)
  have e1:sliO (y::x) 0 (([46]:List Int).length:Int)=some [y]:=by
   have:=sli_nat (y::x) (a:=0) (b:=1) (by omega) (by simp)
   simpa using this
  refine bnd e1 (bnd (x:=decide (y=46)) ?_ rfl)
  unfold bytes_Equal
  refine bnd rfl (bnd rfl ?_)
  rw [toList_beq]
  congr 1
  refine decide_eq_decide.2 ⟨fun h => ?_,fun h=>by rw [h]⟩
  have:=congrArg sbytes h
  rw [sbytes_bstr (by intro z hz; rw [List.mem_singleton] at hz; rw [hz]; exact hb y (by simp)),sbytes_bstr (by decide)] at this
  simpa using this
def stf (l:List Int):List Int:=if l.head? = some 46 then 46::l else l
def trm (l:List Int):List Int:=if l.head? = some 46 then l.tail else l
theorem trm_stf (l:List Int):trm (stf l)=l:=by
 unfold stf trm
 by_cases h:l.head? = some 46
 ·rw [if_pos h,if_pos (by simp)]; rfl
 ·rw [if_neg h,if_neg h]
theorem stf_dot (l:List Int):stf l≠[46]:=by
 unfold stf
 split
 ·rename_i h; intro e; cases l with
  | nil=>simp at h
  | cons=>simp at e
 ·rename_i h; intro e; rw [e] at h; simp at h
theorem stf_cln {l:List Int} (h:cln l):cln (stf l):=by
 unfold stf; split
 ·intro x hx
  rcases List.mem_cons.1 hx with rfl | hx
  ·decide
  ·exact h x hx
 ·exact h
theorem stf_byt {l:List Int} (h:byt l):byt (stf l):=by
 unfold stf; split
 ·intro x hx
  rcases List.mem_cons.1 hx with rfl | hx
  ·decide
  ·exact h x hx
 ·exact h
theorem stf_len (l:List Int):(stf l).length≤l.length+1:=by unfold stf; split <;> simp
theorem tot_stf:∀ ls:List (List Int),tot (ls.map stf)≤2 * tot ls
 | []=>by simp [tot]
 | l::ls=>by
  have h1:=stf_len l
  have h2:=tot_stf ls
  simp only [List.map_cons,tot]; omega
theorem tot_app:∀ a b:List (List Int),tot (a++b)=tot a+tot b
 | [],b=>by simp [tot]
 | x::a,b=>by simp only [List.cons_append,tot,tot_app a b]; omega
theorem map_trm (ls:List (List Int)):(ls.map stf).map trm=ls:=by
 rw [List.map_map]
 conv=>rhs; rw [← List.map_id ls]
 exact List.map_congr_left fun l _=>trm_stf l
def stuffS:List Int→List Int→Option (List Int⊕Unit):=fun (x:(List Int)) (s21:(List Int)) =>
    bindS (S:=(List Int)) (A:=(((List Int))⊕(Unit)))
     ((bytes_HasPrefix x [46]).bind fun v4 =>
     cond (v4)
      ((appO 1 s21 (sbytes (⟨#[46]⟩:ByteArray))).bind fun v6 =>
      some (.inl v6))
      (some (.inl s21)))
     (fun (s29:(List Int)) =>
      (appO 1 s29 x).bind fun v12 =>
      (appO 1 v12 (sbytes (⟨#[13,10]⟩:ByteArray))).bind fun v13 =>
      some (.inl v13)) some
theorem sb46:sbytes (⟨#[46]⟩:ByteArray)=[46]:=rfl
theorem sbE:sbytes (⟨#[13,10]⟩:ByteArray)=[13,10]:=rfl
theorem sbD:sbytes (⟨#[46,13,10]⟩:ByteArray)=[46,13,10]:=rfl
theorem stuff_step {x s:List Int} (hb:byt x) (hl:s.length+x.length<4294960000):stuffS x s=some (.inl (s++(stf x++[13,10]))):=by
 unfold stuffS
 rw [sb46,sbE]
 by_cases h:x.head? = some 46
 ·have e:stf x=46::x:=by unfold stf; rw [if_pos h]
  rw [e]
  refine bndL (s:=s++[46]) (bnd (hasDot hb (by omega)) (cnd_t (decide_eq_true h) (bnd (app_of (by simp; omega) (by simp; omega)) rfl))) ?_
  refine bnd (app_of (by simp; omega) (by simp; omega)) (bnd (app_of (by simp; omega) (by simp; omega)) ?_)
  simp
 ·have e:stf x=x:=by unfold stf; rw [if_neg h]
  rw [e]
  refine bndL (s:=s) (bnd (hasDot hb (by omega)) (cnd_f (decide_eq_false h) rfl)) ?_
  refine bnd (app_of (by omega) (by omega)) (bnd (app_of (by simp; omega) (by simp; omega)) ?_)
  simp
theorem fol_stuff:∀ (ls:List (List Int)) (s:List Int),(∀ l∈ls,byt l)→s.length+2 * tot ls<4294960000→folL stuffS ls s=some (.inl (s++jn (ls.map stf)))
 | [],s,_,_=>by simp [folL,jn]
 | l::ls,s,hb,hs=>by
  simp only [tot] at hs
  have h1:=stf_len l
  simp only [folL]
  rw [stuff_step (hb l (by simp)) (by omega)]
  refine (fol_stuff ls _ (fun m hm=>hb m (by simp [hm])) (by simp only [List.length_append,List.length_cons,List.length_nil]; omega)).trans ?_
  simp [jn]
theorem stuff_ok {ls:List (List Int)} (h:∀ l∈ls,cln l) (hb:∀ l∈ls,byt l) (hl:tot ls<1000000000):dots_Stuff (jn ls)=some (jn (ls.map stf++[[46]]),0):=by
 unfold dots_Stuff dots_lines
 refine bnd (check_ok h hb (by omega)) (cnd_f rfl (bnd rfl ?_))
 refine bndL (s:=jn (ls.map stf)) (lines_range stuffS (lns_jn h) (jn_byt hb) (by rw [jn_len]; omega) _ _ ?_) ?_
 ·have:=fol_stuff ls [] hb (by simp; omega)
  simpa using this
 ·have h2:=tot_stf ls
  rw [sbD]
  refine bnd (app_of (by rw [jn_len]; simp; omega) (by rw [jn_len]; simp; omega)) ?_
  rw [jn_app]; rfl
def lastS:List Int→Int→Option (Int⊕Int):=fun (x:(List Int)) (s8:Int) =>
   (some (bstr x)).bind fun v2 =>
   cond ((v2.toList==(⟨#[46]⟩:ByteArray).toList))
    (some (.inr s8))
    ((some (IntKind.i64.wrap ((x.length:Int)+2))).bind fun v4 =>
    (some (IntKind.i64.wrap (s8+v4))).bind fun v5 =>
    some (.inl v5))
theorem is46 {x:List Int} (hb:byt x):((bstr x).toList==(⟨#[46]⟩:ByteArray).toList)=decide (x=[46]):=by
 rw [toList_beq]
 refine decide_eq_decide.2 ⟨fun h => ?_,fun h=>by rw [h]; rfl⟩
 have:=congrArg sbytes h
 rw [sbytes_bstr hb,sb46] at this
 exact this
theorem last_go {x:List Int} {s:Nat} (hb:byt x) (h:x≠[46]) (hl:s+x.length<4611686018427387904):lastS x (s:Int)=some (.inl ((s+(x.length+2):Nat):Int)):=by
 unfold lastS
 refine bnd rfl ?_
 rw [is46 hb]
 refine cnd_f (decide_eq_false h) (bnd (wrap_j (by omega) (by omega)) (bnd (wrap_j (by omega) (by omega)) ?_))
 simp
theorem last_dot (s:Int):lastS [46] s=some (.inr s):=by
 unfold lastS
 refine bnd rfl ?_
 rw [is46 (by decide)]
 exact cnd_t rfl rfl
theorem fol_last:∀ (ls ms:List (List Int)) (s:Nat),(∀ l∈ls,byt l∧l≠[46])→s+tot ls<4611686018427387904→folL lastS (ls++ms) (s:Int)=folL lastS ms ((s+tot ls:Nat):Int)
 | [],ms,s,_,_=>by simp [tot]
 | l::ls,ms,s,hb,hs=>by
  simp only [tot] at hs
  rw [List.cons_append]
  conv=>lhs; unfold folL
  rw [last_go (hb l (by simp)).1 (hb l (by simp)).2 (by omega)]
  refine (fol_last ls ms _ (fun m hm=>hb m (by simp [hm])) (by omega)).trans ?_
  simp only [tot]
  rw [show s+(l.length+2)+tot ls=s+(l.length+2+tot ls) by omega]
theorem last_some {ls:List (List Int)} {more:List Int} (h:∀ l∈ls,cln l) (hb:∀ l∈ls,byt l) (hd:∀ l∈ls,l≠[46]) (hm:byt more) (hl:tot ls+more.length<4000000000) :
  dots_lastLine (jn (ls++[[46]])++more)=some ((tot ls:Int),true):=by
 obtain ⟨ms,r,H⟩:=lns_ex more.length more (Nat.le_refl _)
 have H2:Lns (jn (ls++[[46]])++more) ((ls++[[46]])++ms) r:=lns_app (fun l hl=>by
  rcases List.mem_append.1 hl with hl | hl
  ·exact h l hl
  ·simp at hl; subst hl; intro x hx; simp at hx; subst hx; decide) H
 unfold dots_lastLine dots_lines
 refine bnd rfl ?_
 refine bndR (a:=(tot ls:Int)) (lines_range lastS H2 (byt_app (jn_byt fun l hl=>by
  rcases List.mem_append.1 hl with hl | hl
  ·exact hb l hl
  ·simp at hl; subst hl; decide) hm) (by rw [List.length_append,jn_len,tot_app]; simp [tot]; omega) _ _ ?_) rfl
 rw [List.append_assoc]
 refine (fol_last ls _ 0 (fun l hl=>⟨hb l hl,hd l hl⟩) (by omega)).trans ?_
 simp only [List.cons_append,folL,last_dot]
 simp
def stripS:List Int→List Int→Option (List Int⊕Unit):=fun (x:(List Int)) (s12:(List Int)) =>
     (bytes_TrimPrefix_sh x [46]).bind fun v8 =>
     (appO 1 s12 v8).bind fun v9 =>
     (appO 1 v9 (sbytes (⟨#[13,10]⟩:ByteArray))).bind fun v10 =>
     some (.inl v10)
theorem trim14 {x:List Int} (hb:byt x) (hl:x.length<4294967281):bytes_TrimPrefix_sh x [46]=some (trm x):=by
 unfold bytes_TrimPrefix_sh
 refine bnd (hasDot hb hl) ?_
 unfold trm
 by_cases h:x.head? = some 46
 ·rw [if_pos h]
  refine cnd_t (decide_eq_true h) ?_
  cases x with
  | nil=>simp at h
  | cons y x =>
   have e1:sliO (y::x) (([46]:List Int).length:Int) ((y::x).length:Int)=some x:=by
    have:=sli_nat (y::x) (a:=1) (b:=(y::x).length) (by simp) (by simp)
    simpa using this
   exact bnd e1 rfl
 ·rw [if_neg h]
  exact cnd_f (decide_eq_false h) rfl
theorem trm_len (l:List Int):(trm l).length≤l.length:=by unfold trm; split <;> simp
theorem fol_strip:∀ (ls:List (List Int)) (s:List Int),(∀ l∈ls,byt l)→s.length+tot ls<4294960000→folL stripS ls s=some (.inl (s++jn (ls.map trm)))
 | [],s,_,_=>by simp [folL,jn]
 | l::ls,s,hb,hs=>by
  simp only [tot] at hs
  have h1:=trm_len l
  have e:stripS l s=some (.inl (s++(trm l++[13,10]))):=by
   unfold stripS
   rw [sbE]
   refine bnd (trim14 (hb l (by simp)) (by omega)) (bnd (app_of (by omega) (by omega)) (bnd (app_of (by simp; omega) (by simp; omega)) ?_))
   simp
  simp only [folL]
  rw [e]
  refine (fol_strip ls _ (fun m hm=>hb m (by simp [hm])) (by simp only [List.length_append,List.length_cons,List.length_nil]; omega)).trans ?_
  simp [jn]
theorem strip_ok {ls:List (List Int)} {more:List Int} (h:∀ l∈ls,cln l) (hb:∀ l∈ls,byt l) (hd:∀ l∈ls,l≠[46]) (hm:byt more) (hl:tot ls+more.length<4000000000) :
  dots_Strip (jn (ls++[[46]])++more)=some (jn (ls.map trm),((tot ls+3:Nat):Int),0):=by
 have e1:sliO (jn (ls++[[46]])++more) 0 (tot ls:Int)=some (jn ls):=by
  have:=sli_nat (jn (ls++[[46]])++more) (a:=0) (b:=tot ls) (by omega) (by rw [List.length_append,jn_len,tot_app]; omega)
  rw [jn_app,List.append_assoc] at this ⊢
  rw [← jn_len] at this ⊢
  simpa using this
 unfold dots_Strip
 refine bnd (last_some h hb hd hm hl) (cnd_f rfl (bnd e1 (bnd (check_ok h hb (by omega)) (cnd_f rfl (bnd e1 ?_)))))
 unfold dots_lines
 refine bnd rfl ?_
 refine bndL (s:=jn (ls.map trm)) (lines_range stripS (lns_jn h) (jn_byt hb) (by rw [jn_len]; omega) _ _ ?_) ?_
 ·have:=fol_strip ls [] hb (by simp; omega)
  simpa using this
 ·refine bnd (wrap_j (by omega) (by omega)) ?_
  simp
def hvIn (l:List T_Mail) (s67:Int):((Int×Int))→Option ((Int×Int)⊕((Int)⊕((Int×Int)⊕((Int)⊕Bool)))):=(fun ((s98,s99):Int×Int) =>
      (ixO s67 l.length).bind fun v18 =>
      (getO l v18).bind fun v19 =>
      cond ((decide (s99<(v19.To.length:Int))))
       ((ixO s67 l.length).bind fun v21 =>
       (getO l v21).bind fun v22 =>
       (ixO s99 v22.To.length).bind fun v23 =>
       (getO v22.To v23).bind fun v24 =>
       (some (IntKind.i64.wrap (s98+(v24.Local.size:Int)))).bind fun v25 =>
       (ixO s67 l.length).bind fun v26 =>
       (getO l v26).bind fun v27 =>
       (ixO s99 v27.To.length).bind fun v28 =>
       (getO v27.To v28).bind fun v29 =>
       (some (IntKind.i64.wrap (v25+(v29.Domain.size:Int)))).bind fun v30 =>
       (some (IntKind.i64.wrap (s99+1))).bind fun v31 =>
       some (.inl (v30,v31)))
       (some (.inr (.inl s98))))
def hvOut (l:List T_Mail):((Int×Int))→Option ((Int×Int)⊕((Int)⊕Bool)):=(fun ((s66,s67):Int×Int) =>
  cond ((decide (s67<(l.length:Int))))
   ((ixO s67 l.length).bind fun v3 =>
   (getO l v3).bind fun v4 =>
   (some (IntKind.i64.wrap (s66+(v4.Body.length:Int)))).bind fun v5 =>
   (ixO s67 l.length).bind fun v6 =>
   (getO l v6).bind fun v7 =>
   (some (IntKind.i64.wrap (v5+(v7.Helo.size:Int)))).bind fun v8 =>
   (ixO s67 l.length).bind fun v9 =>
   (getO l v9).bind fun v10 =>
   (some (IntKind.i64.wrap (v8+(v10.From.Local.size:Int)))).bind fun v11 =>
   (ixO s67 l.length).bind fun v12 =>
   (getO l v12).bind fun v13 =>
   (some (IntKind.i64.wrap (v11+(v13.From.Domain.size:Int)))).bind fun v14 =>
   (ixO s67 l.length).bind fun v15 =>
   (getO l v15).bind fun v16 =>
   cond ((decide (40<(v16.To.length:Int))))
    (some (.inr (.inr (true))))
    (bindS (S:=(Int)) (A:=((Int×Int)⊕((Int)⊕Bool)))
     (loopF (S:=(Int×Int)) (O:=(Int)⊕((Int×Int)⊕((Int)⊕Bool))) (fun ((s98,s99):Int×Int) =>
      (ixO s67 l.length).bind fun v18 =>
      (getO l v18).bind fun v19 =>
      cond ((decide (s99<(v19.To.length:Int))))
       ((ixO s67 l.length).bind fun v21 =>
       (getO l v21).bind fun v22 =>
       (ixO s99 v22.To.length).bind fun v23 =>
       (getO v22.To v23).bind fun v24 =>
       (some (IntKind.i64.wrap (s98+(v24.Local.size:Int)))).bind fun v25 =>
       (ixO s67 l.length).bind fun v26 =>
       (getO l v26).bind fun v27 =>
       (ixO s99 v27.To.length).bind fun v28 =>
       (getO v27.To v28).bind fun v29 =>
       (some (IntKind.i64.wrap (v25+(v29.Domain.size:Int)))).bind fun v30 =>
       (some (IntKind.i64.wrap (s99+1))).bind fun v31 =>
       some (.inl (v30,v31)))
       (some (.inr (.inl s98))))
      BIG (v14,0))
     (fun (s101:Int) =>
      (some (IntKind.i64.wrap (s67+1))).bind fun v46 =>
      some (.inl (s101,v46))) some))
   (some (.inr (.inl s66))))
theorem wadd {a b:Nat} (h:a+b<9223372036854775808):some (IntKind.i64.wrap ((a:Int)+(b:Int)))=some ((a+b:Nat):Int):=by
 rw [wrap_i64 (by omega) (by omega)]; simp
def pW (p:T_Path):Nat:=p.Local.size+p.Domain.size
def psum:List T_Path→Nat
 | []=>0
 | p::l=>pW p+psum l
def mW (m:T_Mail):Nat:=m.Body.length+m.Helo.size+m.From.Local.size+m.From.Domain.size+psum m.To
def msum:List T_Mail→Nat
 | []=>0
 | m::l=>mW m+msum l
theorem psum_take (l:List T_Path) (k:Nat) (hk:k<l.length):psum (l.take (k+1))=psum (l.take k)+pW l[k]:=by
 induction l generalizing k with
 | nil=>simp at hk
 | cons p l ih =>
  cases k with
  | zero=>simp [psum]
  | succ k =>
   simp only [List.take_succ_cons,psum,List.getElem_cons_succ]
   rw [ih k (by simpa using hk)]; omega
theorem msum_take (l:List T_Mail) (k:Nat) (hk:k<l.length):msum (l.take (k+1))=msum (l.take k)+mW l[k]:=by
 induction l generalizing k with
 | nil=>simp at hk
 | cons p l ih =>
  cases k with
  | zero=>simp [msum]
  | succ k =>
   simp only [List.take_succ_cons,msum,List.getElem_cons_succ]
   rw [ih k (by simpa using hk)]; omega
theorem psum_le (B:Nat):∀ (l:List T_Path),(∀ p∈l,pW p≤B)→psum l≤l.length * B
 | [],_=>by simp [psum]
 | p::l,h=>by
  have h1:=h p (by simp)
  have h2:=psum_le B l (fun q hq=>h q (by simp [hq]))
  simp only [psum,List.length_cons,Nat.add_mul]; omega
theorem msum_le (B:Nat):∀ (l:List T_Mail),(∀ p∈l,mW p≤B)→msum l≤l.length * B
 | [],_=>by simp [msum]
 | p::l,h=>by
  have h1:=h p (by simp)
  have h2:=msum_le B l (fun q hq=>h q (by simp [hq]))
  simp only [msum,List.length_cons,Nat.add_mul]; omega
theorem mW_le_msum {m:T_Mail}:∀ {l:List T_Mail},m∈l→mW m≤msum l
 | x::l,h=>by
  rcases List.mem_cons.1 h with rfl | h
  ·simp only [msum]; omega
  ·have:=mW_le_msum h; simp only [msum]; omega
theorem pW_le_psum {p:T_Path}:∀ {l:List T_Path},p∈l→pW p≤psum l
 | x::l,h=>by
  rcases List.mem_cons.1 h with rfl | h
  ·simp only [psum]; omega
  ·have:=pW_le_psum h; simp only [psum]; omega
def mRe (m:T_Mail):Prop:=m.Body.length<140737488355328∧m.Helo.size<140737488355328∧m.From.Local.size<140737488355328∧m.From.Domain.size<140737488355328∧m.To.length<140737488355328∧∀ p∈m.To,p.Local.size<140737488355328∧p.Domain.size<140737488355328
theorem hvIn_run (l:List T_Mail) (i:Nat) (hi:i<l.length) (hm:mRe l[i]) (ht:l[i].To.length≤40) (A:Nat) (hA:A<1152921504606846976) :
  loopF (hvIn l (i:Int)) BIG ((A:Int),0)=some (.inl ((A+psum l[i].To:Nat):Int)):=by
 have hix:ixO (i:Int) l.length=some i:=ixO_of hi
 have hg:getO l i=some l[i]:=by simp [getO,hi]
 obtain ⟨m,hmm⟩:∃ m,m=l[i]:=⟨_,rfl⟩
 rw [← hmm] at hm ht hg ⊢
 have hp:∀ p∈m.To,pW p≤281474976710656:=fun p hp=>by have:=hm.2.2.2.2.2 p hp; simp only [pW]; omega
 have hb:∀ k,psum (m.To.take k)≤40 * 281474976710656:=fun k=>by
  have h1:=psum_le 281474976710656 (m.To.take k) (fun p hq=>hp p (List.mem_of_mem_take hq))
  have h2:(m.To.take k).length≤40:=by rw [List.length_take]; omega
  exact Nat.le_trans h1 (Nat.mul_le_mul_right _ h2)
 refine loop_from (fun k=>(((A+psum (m.To.take k):Nat):Int),(k:Int))) m.To.length BIG (by simp [psum]) (by simp only [BIG]; omega) (fun k hk => ?_) ?_
 ·have hk':k<m.To.length:=hk
  have hix2:ixO (k:Int) m.To.length=some k:=ixO_of hk'
  have hg2:getO m.To k=some m.To[k]:=by simp [getO,hk']
  have hb1:=hb k
  have hpk:=hm.2.2.2.2.2 m.To[k] (List.getElem_mem _)
  have hs:=psum_take m.To k hk'
  refine bnd hix (bnd hg (cnd_t (decide_eq_true (by omega)) (bnd hix (bnd hg (bnd hix2 (bnd hg2 (bnd (wadd (by omega)) (bnd hix (bnd hg (bnd hix2 (bnd hg2 (bnd (wadd (by omega)) (bnd (congrArg some (wrap_succ (by omega))) ?_))))))))))))) 
  rw [hs]
  simp only [pW,Nat.add_assoc]
 ·refine bnd hix (bnd hg (cnd_f (decide_eq_false (by omega)) ?_))
  simp only [List.take_length]
def LM (m:T_Mail):Prop:=m.To.length≤40∧mW m≤20000
theorem mW_le {m:T_Mail} (hm:mRe m) (ht:m.To.length≤40):mW m≤44 * 281474976710656:=by
 have h1:=psum_le 281474976710656 m.To (fun p hq=>by have:=hm.2.2.2.2.2 p hq; simp only [pW]; omega)
 have h2:m.To.length * 281474976710656≤40 * 281474976710656:=Nat.mul_le_mul_right _ ht
 have:=hm.1; have:=hm.2.1; have:=hm.2.2.1; have:=hm.2.2.2.1
 simp only [mW]; omega
theorem heavy17 (l:List T_Mail) (hr:∀ m∈l,mRe m):∃ b,wherrylaw17_Heavy l=some b∧(b=false→l.length≤20∧∀ m∈l,LM m):=by
 by_cases hl:20<l.length
 ·refine ⟨true,?_,fun h=>by cases h⟩
  simp only [wherrylaw17_Heavy]
  exact cnd_t (decide_eq_true (by omega)) rfl
 ·have go:∀ i,(hi:i<l.length)→l[i].To.length≤40→msum (l.take i)≤20 * (44 * 281474976710656)→hvOut l (((msum (l.take i):Nat):Int),(i:Int))=some (.inl (((msum (l.take (i+1)):Nat):Int),((i+1:Nat):Int))):=by
   intro i hi ht hb
   have hix:ixO (i:Int) l.length=some i:=ixO_of hi
   have hg:getO l i=some l[i]:=by simp [getO,hi]
   have hm:=hr l[i] (List.getElem_mem _)
   have hm1:=hm.1; have hm2:=hm.2.1; have hm3:=hm.2.2.1; have hm4:=hm.2.2.2.1
   refine cnd_t (decide_eq_true (by omega)) (bnd hix (bnd hg (bnd (wadd (by omega)) (bnd hix (bnd hg (bnd (wadd (by omega)) (bnd hix (bnd hg (bnd (wadd (by omega)) (bnd hix (bnd hg (bnd (wadd (by omega)) (bnd hix (bnd hg (cnd_f (decide_eq_false (by omega)) (bndL (hvIn_run l i hi hm ht _ (by omega)) (bnd (congrArg some (wrap_succ (by omega))) ?_)))))))))))))))))
   rw [msum_take l i hi]
   simp only [mW,Nat.add_assoc]
  have hs:∀ k,k≤l.length→(∀ i,i<k→(h:i<l.length)→l[i].To.length≤40)→msum (l.take k)≤20 * (44 * 281474976710656):=by
   intro k hk ht
   have h1:=msum_le (44 * 281474976710656) (l.take k) (fun m hq=>by
    obtain ⟨j,hj,e⟩:=List.mem_iff_getElem.1 hq
    rw [List.getElem_take] at e
    rw [List.length_take] at hj
    rw [← e]
    exact mW_le (hr _ (List.getElem_mem _)) (ht j (by omega) (by omega)))
   have h2:(l.take k).length≤20:=by rw [List.length_take]; omega
   exact Nat.le_trans h1 (Nat.mul_le_mul_right _ h2)
  rcases first_fail (fun i=>decide (∀ h:i<l.length,l[i].To.length≤40)) l.length with h | ⟨k,hk,h1,h2⟩
  ·have ht:∀ i,(h:i<l.length)→l[i].To.length≤40:=fun i hi=>of_decide_eq_true (h i hi) hi
   have hrun:loopF (hvOut l) BIG (0,0)=some (.inl ((msum l:Nat):Int)):=by
    refine loop_from (fun k=>(((msum (l.take k):Nat):Int),(k:Int))) l.length BIG rfl (by simp only [BIG]; omega) (fun i hi=>go i hi (ht i hi) (hs i (by omega) (fun j _ hj=>ht j hj))) ?_
    refine cnd_f (decide_eq_false (by omega)) ?_
    simp only [List.take_length]
   refine ⟨decide ((20000:Int)<((msum l:Nat):Int)),?_,fun hd=>⟨by omega,fun m hm=>⟨?_,?_⟩⟩⟩
   ·simp only [wherrylaw17_Heavy]
    exact cnd_f (decide_eq_false (by omega)) (bndL hrun rfl)
   ·obtain ⟨j,hj,e⟩:=List.mem_iff_getElem.1 hm
    rw [← e]; exact ht j hj
   ·have:=mW_le_msum hm
    have:=of_decide_eq_false hd
    omega
  ·have h2':40<l[k].To.length:=by
    have:=of_decide_eq_false h2
    apply Classical.byContradiction
    intro hh
    exact this (fun _=>Nat.le_of_not_lt hh)
   have ht:∀ i,i<k→(h:i<l.length)→l[i].To.length≤40:=fun i hi h=>of_decide_eq_true (h1 i hi) h
   have hrun:loopF (hvOut l) BIG (0,0)=some (.inr true):=by
    refine loop_from (fun k=>(((msum (l.take k):Nat):Int),(k:Int))) k BIG rfl (by simp only [BIG]; omega) (fun i hi=>go i (by omega) (ht i hi (by omega)) (hs i (by omega) (fun j hj h=>ht j (by omega) h))) ?_
    have hix:ixO (k:Int) l.length=some k:=ixO_of hk
    have hg:getO l k=some l[k]:=by simp [getO,hk]
    have hm:=hr l[k] (List.getElem_mem _)
    have hm1:=hm.1; have hm2:=hm.2.1; have hm3:=hm.2.2.1; have hm4:=hm.2.2.2.1
    have hb:=hs k (by omega) ht
    exact cnd_t (decide_eq_true (by omega)) (bnd hix (bnd hg (bnd (wadd (by omega)) (bnd hix (bnd hg (bnd (wadd (by omega)) (bnd hix (bnd hg (bnd (wadd (by omega)) (bnd hix (bnd hg (bnd (wadd (by omega)) (bnd hix (bnd hg (cnd_t (decide_eq_true (by omega)) rfl)))))))))))))))
   refine ⟨true,?_,fun h=>by cases h⟩
   simp only [wherrylaw17_Heavy]
   exact cnd_f (decide_eq_false (by omega)) (bndR hrun rfl)
end Go.Abs.Sh
