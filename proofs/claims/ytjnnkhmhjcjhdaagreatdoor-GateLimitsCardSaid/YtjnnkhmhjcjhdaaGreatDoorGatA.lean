import Derived.Test.YtjnnkhmhjcjhdaaGreatDoorLineM
import Derived.KernelRfl
namespace Go.Abs.Sh
set_option linter.unusedVariables false
set_option linter.unusedSimpArgs false
set_option maxRecDepth 100000
/-! The gate: a session by its steps. -/
abbrev JN:co:=co.mk [(⟨#[97]⟩:ByteArray),(⟨#[98]⟩:ByteArray)] 9 (⟨#[117]⟩:ByteArray) (⟨#[115]⟩:ByteArray) 9000 false
abbrev SG (i t:Int) (g:cq) (o:List cc):aa:=aa.mk g JN i t o
abbrev tG (i t:Int) (p:cq×List cc):Int×ByteArray×Bool×ByteArray×ByteArray×(List bu)×Bool×(List Int)×ByteArray×Bool×ByteArray×ByteArray×Int×ByteArray×ByteArray×Int×Bool×Int×Int×(List cc) :=
 (p.1.Phase,p.1.Helo,p.1.From.Null,p.1.From.Local,p.1.From.Domain,p.1.To,p.1.Quiet,p.1.Buf,p.1.Challenge,p.1.Proved,(⟨#[97]⟩:ByteArray),(⟨#[98]⟩:ByteArray),9,(⟨#[117]⟩:ByteArray),(⟨#[115]⟩:ByteArray),9000,false,i,t,p.2)
abbrev tv (g:cq) (b:List Int):cq:=cq.mk g.Phase g.Helo g.From g.To g.Quiet b g.Challenge g.Proved
abbrev zP:bu:=bu.mk false (⟨#[]⟩:ByteArray) (⟨#[]⟩:ByteArray)
def tz (code:Int):cc:=cc.mk (fw.mk code [if 200≤code∧code<400 then (⟨#[111,107]⟩:ByteArray) else (⟨#[110,111]⟩:ByteArray)]) false (dw.mk zP [] [] false (⟨#[]⟩:ByteArray) 0) false
theorem LI {i t:Int} (st:Nat→cq×List cc) (n:Nat) (hn:n<1000000) {g:cq} {o:List cc} {g':cq} {o':List cc} (h0:st 0=(g,o))
  (hs:∀ k,k<n→dE (SG i t (st k).1 (st k).2)=some (true,SG i t (st (k+1)).1 (st (k+1)).2))
  (he:dE (SG i t (st n).1 (st n).2)=some (false,SG i t g' o')):eR (SG i t g o)=some (SG i t g' o'):=by
 unfold eR
 refine cW (s:=tG i t (g',o')) (jd (fun k=>tG i t (st k)) n _ (by show _=_; simp only [h0]; rfl) (by simp only [kz]; omega) (fun k hk => ?_) ?_) rfl
 ·exact cJ (hs k hk) rfl
 ·exact cJ he rfl
theorem NE {i t:Int} {g:cq} {o:List cc} {g':cq} {o':List cc} (he:dE (SG i t g o)=some (false,SG i t g' o')):eR (SG i t g o)=some (SG i t g' o') :=
 LI (fun _=>(g,o)) 0 (by omega) rfl (fun k hk=>by omega) he
theorem NF {i t:Int} {g:cq} {o:List cc} {g1:cq} {o1:List cc} {g':cq} {o':List cc} (h:dE (SG i t g o)=some (true,SG i t g1 o1))
  (he:dE (SG i t g1 o1)=some (false,SG i t g' o')):eR (SG i t g o)=some (SG i t g' o') :=
 LI (fun k=>if k=0 then (g,o) else (g1,o1)) 1 (by omega) rfl (fun k hk=>match k,hk with | 0,_=>h | k+1,hk=>absurd hk (by omega)) he
theorem Gu {l:List Int} (h:mU l):jf l [13,10]=match tR l with | none => -1 | some e=>(e:Int):=Jl h
theorem GN {l:List Int} (h:mU l) (hl:l.length<1000000):Il l [13,10]=some ():=by
 unfold Il
 refine if_pos ⟨List.all_eq_true.2 fun x hx => ?_,rfl,by omega,by decide⟩
 have:=h x hx
 simp only [Bool.and_eq_true,decide_eq_true_eq]; exact this
theorem zB {i t:Int} {g:cq} {o:List cc} {code:Int} (hc:code≠334) (ho:o.length<100000):cY (SG i t g o) code=some (SG i t g (o++[tz code])):=by
 unfold cY
 refine cJ (x:=(tz code).Reply) ?_ (cJ (ua (by simp; omega) (by simp; omega)) rfl)
 unfold fm
 by_cases h:200≤code∧code<400
 ·refine cW (s:=(⟨#[111,107]⟩:ByteArray)) (bY (beq_eq_false_iff_ne.2 hc) (cJ (x:=true) ?_ rfl)) (by unfold tz; rw [if_pos h])
  exact cW (s:=true) (cx (decide_eq_true h.1) (by rw [decide_eq_true h.2])) rfl
 ·refine cW (s:=(⟨#[110,111]⟩:ByteArray)) (bY (beq_eq_false_iff_ne.2 hc) (cJ (x:=false) ?_ rfl)) (by unfold tz; rw [if_neg h])
  unfold nN
  by_cases h1:200≤code
  ·exact cW (s:=false) (cx (decide_eq_true h1) (by rw [decide_eq_false (by omega)])) rfl
  ·exact cW (s:=false) (bY (decide_eq_false h1) rfl) rfl
theorem BT {i t:Int} {g:cq} {o:List cc} (h4:g.Phase≠4) (hb:mU g.Buf) (hl:g.Buf.length≤512) (hx:tR g.Buf=none):dE (SG i t g o)=some (false,SG i t g o):=by
 unfold dE
 refine bY (beq_eq_false_iff_ne.2 h4) (cJ (GN hb (by show g.Buf.length<_; omega)) ?_)
 refine bY (decide_eq_false (by show ¬ 0≤jf g.Buf [13,10]; rw [Gu hb,hx]; decide)) (cx (decide_eq_true (by show (g.Buf.length:Int)≤512; omega)) rfl)
theorem HL {i t:Int} {g g':cq} {o o':List cc} {e:Nat} (h4:g.Phase≠4) (hb:mU g.Buf) (hl:g.Buf.length<100000) (hx:tR g.Buf=some e)
  (h:dz (SG i t (tv g (g.Buf.drop (e+2))) o) (cH (g.Buf.take e))=some (SG i t g' o')):dE (SG i t g o)=some (true,SG i t g' o'):=by
 unfold dE
 have hI:jf g.Buf [13,10]=(e:Int):=by rw [Gu hb,hx]
 have hL:MH g.Buf [13,10]=g.Buf.take e:=by unfold MH; rw [if_pos (by omega),hI]; rfl
 have hR:HK g.Buf [13,10]=g.Buf.drop (e+2):=by unfold HK; rw [hI]; rfl
 refine bY (beq_eq_false_iff_ne.2 h4) (cJ (GN hb (by show g.Buf.length<_; omega)) (cx (decide_eq_true (by show 0≤jf g.Buf [13,10]; omega)) ?_))
 rw [← hL,← hR] at h
 exact cJ rfl (cJ h rfl)
theorem wc {i t x:Int} {g:cq} {o:List cc} (h4:g.Phase≠4):eT (SG i t g o) x=some ((x==10)||decide (512<(g.Buf.length:Int)),SG i t g o):=by
 unfold eT
 refine bY (beq_eq_false_iff_ne.2 h4) ?_
 generalize (x==10)=c
 cases c
 ·exact cW (s:=decide (512<(g.Buf.length:Int))) (bY rfl rfl) rfl
 ·exact cW (s:=true) (cx rfl rfl) rfl
def wF (i t:Int) (k:Nat) (x:Int) (p q:cq×List cc):Prop :=
 p.1.Buf.length<100000∧∃ c:Bool,(if k=0 then c=true else eT (SG i t (tv p.1 (p.1.Buf++[x])) p.2) x=some (c,SG i t (tv p.1 (p.1.Buf++[x])) p.2)) ∧
  (if c=true then eR (SG i t (tv p.1 (p.1.Buf++[x])) p.2)=some (SG i t q.1 q.2) else q=(tv p.1 (p.1.Buf++[x]),p.2))
theorem Mg:nT JN=some 0:=by kernel_rfl
theorem Ee {g:cq} (h1:g.To.length<100000) (h2:g.Buf.length<1000000):nw g=some g:=by
 unfold nw gH lw
 exact cJ (cJ (ua (k:=40) (l:=[]) (m:=g.To) (by simp; omega) (by simp; omega)) rfl) (cJ (cJ (ua (k:=1) (l:=[]) (m:=g.Buf) (by simp; omega) (by simp; omega)) rfl) rfl)
theorem KZ {i t:Int} (g:cq) (b:List Int) (st:Nat→cq×List cc) (h0:st 0=(g,[])) (hi:i=0∨i=1) (ht:0≤t∧t≤1099511627776) (hv:kf g=some true) (hb:b.length<1000000)
  (hg:g.To.length<100000∧g.Buf.length<1000000) (he:(st b.length).1.To.length<100000∧(st b.length).1.Buf.length<1000000) (hs:∀ k (hk:k<b.length),wF i t k b[k] (st k) (st (k+1))) :
  im JN i t g b=some ((st b.length).1,(st b.length).2,0):=by
 unfold im
 have hlt:(cu (S:=Bool) (A:=(cq×(List cc)×Int)) (some (.inl false)) (fun _=>none) some:Option (cq×(List cc)×Int))=none:=rfl
 have ha:decide (t<0)=false:=decide_eq_false (by omega)
 have hc:decide (1099511627776<t)=false:=decide_eq_false (by omega)
 refine cJ Mg (bY rfl (cW (s:=false) ?_ (bY rfl (cJ (Ee hg.1 hg.2) ?_))))
 ·rcases hi with rfl | rfl
  ·exact bY rfl (bY ha (bY hc (cJ hv rfl)))
  ·exact cx rfl (bY rfl (bY ha (bY hc (cJ hv rfl))))
 refine cW (s:=tG i t (st b.length)) (jd (fun k=>((tG i t (st k)).1,(tG i t (st k)).2.1,(tG i t (st k)).2.2.1,(tG i t (st k)).2.2.2.1,(tG i t (st k)).2.2.2.2.1,(tG i t (st k)).2.2.2.2.2.1,(tG i t (st k)).2.2.2.2.2.2.1,(tG i t (st k)).2.2.2.2.2.2.2.1,(tG i t (st k)).2.2.2.2.2.2.2.2.1,(tG i t (st k)).2.2.2.2.2.2.2.2.2.1,(⟨#[97]⟩:ByteArray),(⟨#[98]⟩:ByteArray),9,(⟨#[117]⟩:ByteArray),(⟨#[115]⟩:ByteArray),9000,false,i,t,(st k).2,(k:Int))) b.length _ (by show _=_; simp only [h0]; rfl) (by simp only [kz]; omega) (fun k hk => ?_) ?_) ?_
 ·obtain ⟨h1,c,h2,h3⟩:=hs k hk
  refine cx (decide_eq_true (by omega)) (cW (s:=tG i t (st (k+1))) (cJ (xY hk) (cJ (xB hk) (cJ (ua (k:=1) (l:=(st k).1.Buf) (m:=[b[k]]) (by simp; omega) (by simp; omega)) ?_))) (cJ (jh (by omega) (by omega)) rfl))
  have hz:((k:Int)==0)=decide (k=0):=by rw [Bool.eq_iff_iff,decide_eq_true_eq,beq_iff_eq]; omega
  by_cases hk0:k=0
  ·rw [if_pos hk0] at h2; subst h2
   rw [if_pos rfl] at h3
   exact cW (s:=((st k).1.Phase,(st k).1.Helo,(st k).1.From.Null,(st k).1.From.Local,(st k).1.From.Domain,(st k).1.To,(st k).1.Quiet,(st k).1.Buf++[b[k]],(st k).1.Challenge,(st k).1.Proved,(⟨#[97]⟩:ByteArray),(⟨#[98]⟩:ByteArray),9,(⟨#[117]⟩:ByteArray),(⟨#[115]⟩:ByteArray),9000,false,i,t,(st k).2,true)) (cx (by rw [hz]; exact decide_eq_true hk0) rfl) (cx rfl (cJ h3 rfl))
  ·rw [if_neg hk0] at h2
   refine cW (s:=((st k).1.Phase,(st k).1.Helo,(st k).1.From.Null,(st k).1.From.Local,(st k).1.From.Domain,(st k).1.To,(st k).1.Quiet,(st k).1.Buf++[b[k]],(st k).1.Challenge,(st k).1.Proved,(⟨#[97]⟩:ByteArray),(⟨#[98]⟩:ByteArray),9,(⟨#[117]⟩:ByteArray),(⟨#[115]⟩:ByteArray),9000,false,i,t,(st k).2,c)) (bY (by rw [hz]; exact decide_eq_false hk0) (cJ h2 rfl)) ?_
   cases c
   ·rw [if_neg (by decide)] at h3
    rw [h3]; exact bY rfl rfl
   ·rw [if_pos rfl] at h3
    exact cx rfl (cJ h3 rfl)
 ·exact bY (decide_eq_false (by omega)) rfl
 ·exact cJ (Ee he.1 he.2) rfl
end Go.Abs.Sh
