import Derived.Test.YtkgfjkfccpjcgaaDoorShkF
import Derived.KernelRfl
namespace Go.Abs.Sh
set_option linter.unusedVariables false
set_option linter.unusedSimpArgs false
set_option maxRecDepth 100000
theorem rep_get (n:Nat) (c:Int) (i:Nat) (h:i<n):(List.replicate n c)[i]? = some c:=by rw [List.getElem?_replicate,if_pos h]
theorem rep_cm (c:Int) {n p at_:Nat} (hp:p≤at_) (ha:at_≤n):cmL (List.replicate n c) p at_=min 258 (n-at_):=by
 have hle:=cm_le (List.replicate n c) (p:=p) (at_:=at_)
 rw [List.length_replicate] at hle
 have:=cm_ge (b:=List.replicate n c) (p:=p) (at_:=at_) (k:=min 258 (n-at_)) (by omega) hp (by rw [List.length_replicate]; omega) fun j hj=>by
  rw [rep_get n c _ (by omega),rep_get n c _ (by omega)]
 omega
theorem rep_bestN (c:Int) {n at_:Nat} (ha:at_<n):∀ k,1≤k→k≤at_→bestN (List.replicate n c) at_ k=(min 258 (n-at_),1)
 | 0,h,_=>by omega
 | 1,_,h2=>by
  show upd1 (0,0) 1 (cmL (List.replicate n c) (at_-1) at_)=_
  rw [rep_cm c (by omega) (by omega)]
  unfold upd1
  rw [if_pos (by show 0<min 258 (n-at_); omega)]
 | k+2,_,h2=>by
  show upd1 (bestN (List.replicate n c) at_ (k+1)) (k+2) (cmL (List.replicate n c) (at_-(k+2)) at_)=_
  rw [rep_bestN c ha (k+1) (by omega) (by omega),rep_cm c (by omega) (by omega)]
  unfold upd1
  rw [if_neg (by show ¬ min 258 (n-at_)<min 258 (n-at_); omega)]
def pcs:Nat→Nat→List T_Tok
 | 0,_=>[]
 | k+1,r=>if 3≤r then ⟨0,((min 258 r:Nat):Int),1⟩::pcs k (r-min 258 r) else []
def rst:Nat→Nat→Nat
 | 0,r=>r
 | k+1,r=>if 3≤r then rst k (r-min 258 r) else r
theorem pcs_low {r:Nat} (h:r<3):∀ k,pcs k r=[]∧rst k r=r
 | 0=>⟨rfl,rfl⟩
 | k+1=>by unfold pcs rst; rw [if_neg (by omega),if_neg (by omega)]; exact ⟨rfl,rfl⟩
theorem rst_low:∀ (k r:Nat),r≤k→rst k r<3
 | 0,r,h=>by simp [rst]; omega
 | k+1,r,h=>by
  unfold rst
  split
  ·exact rst_low k _ (by omega)
  ·omega
theorem rep_toks (c:Int) {n:Nat}:∀ (k at_:Nat),1≤at_→at_≤n→n-at_≤k→toks (List.replicate n c) k at_=pcs k (n-at_)++List.replicate (rst k (n-at_)) ⟨c,0,0⟩
 | 0,at_,h1,h2,hk=>by
  have:n-at_=0:=by omega
  rw [this]; rfl
 | k+1,at_,h1,h2,hk=>by
  unfold toks
  rw [List.length_replicate]
  by_cases he:at_<n
  ·rw [if_pos he]
   have hb:bestS (List.replicate n c) at_=if n-at_<3 then (0,0) else (min 258 (n-at_),1):=by
    unfold bestS
    rw [rep_bestN c he _ (by omega) (by omega)]
    unfold clp
    by_cases h:n-at_<3
    ·rw [if_pos (by show min 258 (n-at_)<3; omega),if_pos h]
    ·rw [if_neg (by show ¬ min 258 (n-at_)<3; omega),if_neg h]
   by_cases h3:n-at_<3
   ·rw [hb,if_pos h3,if_pos rfl,rep_toks c k (at_+1) (by omega) (by omega) (by omega)]
    obtain ⟨e1,e2⟩:=pcs_low h3 (k+1)
    obtain ⟨e3,e4⟩:=pcs_low (r:=n-(at_+1)) (by omega) k
    rw [e1,e2,e3,e4]
    have:n-at_=(n-(at_+1))+1:=by omega
    rw [this,List.replicate_succ,List.getD_eq_getElem?_getD,rep_get n c at_ he]
    rfl
   ·rw [hb,if_neg h3,if_neg (by show ¬ min 258 (n-at_)=0; omega)]
    show _::toks (List.replicate n c) k (at_+min 258 (n-at_))=_
    rw [rep_toks c k (at_+min 258 (n-at_)) (by omega) (by omega) (by omega)]
    conv=>rhs; unfold pcs rst
    rw [if_pos (by omega),if_pos (by omega),show n-(at_+min 258 (n-at_))=n-at_-min 258 (n-at_) by omega]
    rfl
  ·rw [if_neg he]
   have:n-at_=0:=by omega
   rw [this]
   rfl
/-! A text of one byte over and over. -/
theorem u64_mod (z:Int) (n:Nat) (h:0<n):∃ q:Nat,q<n∧remO (IntKind.u64.wrap z) (n:Int)=some (q:Int):=by
 have h1:IntKind.u64.wrap z=((z % 18446744073709551616).toNat:Int):=by
  simp only [IntKind.wrap,IntKind.bits,IntKind.signed]
  have e:(2:Int) ^ 64=18446744073709551616:=by decide
  simp only [e,Bool.false_and,Bool.false_eq_true,if_false]
  omega
 rw [h1]
 exact ⟨_,Nat.mod_lt _ h,rem_nat _ n h⟩
def tokW (L:Nat):Nat:=wid (tkP mL mD ⟨0,(L:Int),1⟩)
theorem tokW_all:(List.range 256).all (fun i=>decide (tokW (3+i)≤18))=true:=by kernel_rfl
theorem tokW_258:tokW 258=13:=by kernel_rfl
theorem litW {c:Int} (h:0≤c∧c<256):wid (tkP mL mD ⟨c,0,0⟩)≤9:=by
 have:(List.range 256).all (fun i=>decide (mL.getD i 0≤9))=true:=by kernel_rfl
 have:=of_decide_eq_true (List.all_eq_true.1 this c.toNat (List.mem_range.2 (by omega)))
 have e:wid (tkP mL mD ⟨c,0,0⟩)=mL.getD c.toNat 0:=by
  unfold tkP
  rw [if_pos rfl]
  simp [wid,syP]
 omega
theorem tks_cons (m d:List Nat) (t:T_Tok) (l:List T_Tok):wid (tksP m d (t::l))=wid (tkP m d t)+wid (tksP m d l):=by
 rw [← wid_app]; rfl
theorem tks_app (m d:List Nat):∀ (a b:List T_Tok),wid (tksP m d (a++b))=wid (tksP m d a)+wid (tksP m d b)
 | [],b=>by simp [tksP,wid]
 | t::a,b=>by
  rw [List.cons_append,tks_cons,tks_cons,tks_app m d a b]; omega
theorem wid_nil (m d:List Nat):wid (tksP m d [])=0:=rfl
theorem pcs_wid:∀ (k r:Nat),wid (tksP mL mD (pcs k r))≤13 * (r / 258)+18
 | 0,r=>by rw [show pcs 0 r=[] from rfl,wid_nil]; omega
 | k+1,r=>by
  unfold pcs
  by_cases h3:3≤r
  ·rw [if_pos h3,tks_cons]
   have ih:=pcs_wid k (r-min 258 r)
   by_cases h:258≤r
   ·have e:min 258 r=258:=by omega
    have w:wid (tkP mL mD ⟨0,((min 258 r:Nat):Int),1⟩)=13:=by rw [e]; exact tokW_258
    rw [e] at ih
    rw [w,e]
    have:r / 258=(r-258) / 258+1:=by omega
    omega
   ·have e:min 258 r=r:=by omega
    have w:wid (tkP mL mD ⟨0,((min 258 r:Nat):Int),1⟩)≤18:=by
     rw [e]
     have:=of_decide_eq_true (List.all_eq_true.1 tokW_all (r-3) (List.mem_range.2 (by omega)))
     rw [show 3+(r-3)=r by omega] at this
     exact this
    rw [e,Nat.sub_self,(pcs_low (r:=0) (by omega) k).1,wid_nil]
    rw [e] at w
    omega
  ·rw [if_neg h3,wid_nil]; omega
theorem rep_wid {c:Int} (h:0≤c∧c<256):∀ n,wid (tksP mL mD (List.replicate n ⟨c,0,0⟩))≤9 * n
 | 0=>by rw [List.replicate_zero,wid_nil]; omega
 | n+1=>by
  have:=rep_wid h n
  have:=litW h
  rw [List.replicate_succ,tks_cons]; omega
theorem one_wid {c:Int} (h:0≤c∧c<256) (n:Nat):wid (fxP (toksS (List.replicate n c)))≤55+13 * (n / 258):=by
 unfold fxP
 have h4:wid [(1,1),(1,2)]=3:=rfl
 have h5:wid [syP mL 256]=7:=by kernel_rfl
 rw [wid_app,wid_app,h4,h5]
 cases n with
 | zero =>
  have:toksS (List.replicate 0 c)=[]:=rfl
  rw [this,wid_nil]; omega
 | succ m =>
  have e:toksS (List.replicate (m+1) c)=⟨c,0,0⟩::(pcs m m++List.replicate (rst m m) ⟨c,0,0⟩):=by
   unfold toksS
   rw [List.length_replicate]
   unfold toks
   rw [if_pos (by rw [List.length_replicate]; omega)]
   have hb0:bestS (List.replicate (m+1) c) 0=(0,0):=rfl
   rw [hb0,if_pos rfl,rep_toks c m 1 (by omega) (by omega) (by omega),Nat.add_sub_cancel,List.getD_eq_getElem?_getD,rep_get (m+1) c 0 (by omega)]
   rfl
  rw [e,tks_cons,tks_app]
  have h1:=litW h
  have h2:=pcs_wid m m
  have h3:=rep_wid h (rst m m)
  have h6:=rst_low m m (Nat.le_refl _)
  have:m / 258≤(m+1) / 258:=Nat.div_le_div_right (by omega)
  omega
def ltS (c v14:Int):(((List Int)×Int))→Option (((List Int)×Int)⊕(((List Int))⊕Bool)):=(fun ((s21,s22):(List Int)×Int) =>
     cond ((decide (s22<v14)))
      ((appO 1 s21 [c]).bind fun v16 =>
      (some (IntKind.i64.wrap (s22+1))).bind fun v17 =>
      some (.inl (v16,v17)))
      (some (.inr (.inl s21))))
theorem least_loop (c:Int) (n:Nat) (hn:n≤1200):loopF (ltS c (n:Int)) BIG ([],0)=some (.inl (List.replicate n c)):=by
 refine loop_from (fun i=>(List.replicate i c,((i:Nat):Int))) n BIG rfl (by simp only [BIG]; omega) (fun i hi => ?_) (cnd_f (decide_eq_false (by omega)) rfl)
 refine cnd_t (decide_eq_true (by omega)) (bnd (app_of (by simp only [List.length_replicate,List.length_cons,List.length_nil]; omega) (by simp only [List.length_replicate,List.length_cons,List.length_nil]; omega)) (bnd (congrArg some (wrap_succ (n:=i) (by omega))) ?_))
 rw [← List.replicate_succ']
theorem len_mono {x y:T_shrink_writer} {p q:List (Nat×Nat)} (hx:WP x p) (hy:WP y q) (h:wid p≤wid q):¬ ((y.b.length:Nat):Int)<((x.b.length:Nat):Int):=by
 have h1:=hx.good.len
 have h2:=hy.good.len
 omega
theorem shrinkLeast_true (b:List Int) (c n:Int) (hw:wfL (wfI .u8) b) (hc:wfI .u8 c):wherrylaw06_ShrinkLeast b c n=some true:=by
 have hb:=bys hw
 have hcb:0≤c∧c<256:=bys (l:=[c]) ⟨by show 1≤maxLen; unfold maxLen; omega,fun x hx=>by rw [List.mem_singleton.1 hx]; exact hc⟩ c (by simp)
 unfold wherrylaw06_ShrinkLeast
 by_cases h12:1200<b.length
 ·exact cnd_t (decide_eq_true (by omega)) rfl
 obtain ⟨x,p,x1,x2,x3,l1,l2,l3⟩:=shrink_is hb (by omega)
 obtain ⟨s,s1,_,s3⟩:=stored_is hb (by omega)
 obtain ⟨f,f1,_,f3⟩:=fixed_is hb (by omega)
 obtain ⟨d,d1,_,d3⟩:=dynamic_is hb (by omega)
 have hs:=s3.good.len
 rw [wid_stQ] at hs
 obtain ⟨m,hm,hr⟩:=u64_mod n 1200 (by omega)
 rw [show ((1200:Nat):Int)=1200 from rfl] at hr
 have hmw:IntKind.i64.wrap (m:Int)=(m:Int):=wrap_i64 (by omega) (by omega)
 have hlp:=least_loop c m (by omega)
 have hrl:(List.replicate m c).length=m:=List.length_replicate
 have hrb:∀ y∈List.replicate m c,0≤y∧y<256:=fun y hy=>by rw [(List.mem_replicate.1 hy).2]; exact hcb
 obtain ⟨z,q,z1,z2,z3,z4,z5,z6⟩:=shrink_is hrb (by omega)
 have hz:=z2.good.len
 have ho:=one_wid hcb m
 have hq:quoO .i64 (m:Int) 258=some ((m / 258:Nat):Int):=quo_nat m 258 (by omega) (by omega)
 have e1:IntKind.i64.wrap (((m / 258:Nat):Int)+1)=((m / 258+1:Nat):Int):=wrap_succ (by omega)
 have e2:IntKind.i64.wrap (2 * ((m / 258+1:Nat):Int))=((2 * (m / 258+1):Nat):Int):=by rw [wrap_i64 (by omega) (by omega)]; omega
 have e3:IntKind.i64.wrap (8+((2 * (m / 258+1):Nat):Int))=((8+2 * (m / 258+1):Nat):Int):=by rw [wrap_i64 (by omega) (by omega)]; omega
 refine cnd_f (decide_eq_false (by omega)) (bnd x1 (bnd s1 (bnd f1 (bnd d1 (bndL (s:=false) ?_ (cnd_f rfl ?_))))))
 ·exact cnd_f rfl (cnd_f rfl (cnd_f rfl (cnd_f rfl (bnd (congrArg some (wrA b.length 5 (by omega))) (cnd_f (bne_eq_false_iff_eq.2 (by show ((s.b.length:Nat):Int)=_; omega)) (cnd_f (decide_eq_false (len_mono x2 s3 l1)) (cnd_f (decide_eq_false (len_mono x2 f3 l2)) (inlB (decide_eq_false (len_mono x2 d3 l3))))))))))
 ·refine bnd rfl (bnd hr (bnd (congrArg some hmw) (bndL hlp (bnd z1 (bndL (s:=true) ?_ rfl)))))
  exact cnd_t rfl (bnd hq (bnd (congrArg some e1) (bnd (congrArg some e2) (bnd (congrArg some e3) (cnd_t (decide_eq_true (by show ((z.b.length:Nat):Int)≤_; omega)) (bnd wakes6 rfl))))))
end Go.Abs.Sh
