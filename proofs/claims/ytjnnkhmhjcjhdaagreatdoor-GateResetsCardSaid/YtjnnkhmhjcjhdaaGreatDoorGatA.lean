import Derived.Test.YtjnnkhmhjcjhdaaGreatDoorLineM
import Derived.KernelRfl
namespace Go.Abs.Sh
set_option linter.unusedVariables false
set_option linter.unusedSimpArgs false
set_option maxRecDepth 100000
/-! The gate: a session by its steps. -/
abbrev RB:dQ:=dQ.mk [(⟨#[97]⟩:ByteArray),(⟨#[98]⟩:ByteArray)] 9 (⟨#[117]⟩:ByteArray) (⟨#[115]⟩:ByteArray) 9000 false
abbrev SG (i t:Int) (g:dE) (o:List dG):aa:=aa.mk g RB i t o
abbrev tG (i t:Int) (p:dE×List dG):Int×ByteArray×Bool×ByteArray×ByteArray×(List cz)×Bool×(List Int)×ByteArray×Bool×ByteArray×ByteArray×Int×ByteArray×ByteArray×Int×Bool×Int×Int×(List dG) :=
 (p.1.Phase,p.1.Helo,p.1.From.Null,p.1.From.Local,p.1.From.Domain,p.1.To,p.1.Quiet,p.1.Buf,p.1.Challenge,p.1.Proved,(⟨#[97]⟩:ByteArray),(⟨#[98]⟩:ByteArray),9,(⟨#[117]⟩:ByteArray),(⟨#[115]⟩:ByteArray),9000,false,i,t,p.2)
abbrev sP (g:dE) (b:List Int):dE:=dE.mk g.Phase g.Helo g.From g.To g.Quiet b g.Challenge g.Proved
abbrev zP:cz:=cz.mk false (⟨#[]⟩:ByteArray) (⟨#[]⟩:ByteArray)
def pX (code:Int):dG:=dG.mk (jl.mk code [if 200≤code∧code<400 then (⟨#[111,107]⟩:ByteArray) else (⟨#[110,111]⟩:ByteArray)]) false (fe.mk zP [] [] false (⟨#[]⟩:ByteArray) 0) false
theorem TC {i t:Int} (st:Nat→dE×List dG) (n:Nat) (hn:n<1000000) {g:dE} {o:List dG} {g':dE} {o':List dG} (h0:st 0=(g,o))
  (hs:∀ k,k<n→fo (SG i t (st k).1 (st k).2)=some (true,SG i t (st (k+1)).1 (st (k+1)).2))
  (he:fo (SG i t (st n).1 (st n).2)=some (false,SG i t g' o')):iy (SG i t g o)=some (SG i t g' o'):=by
 unfold iy
 refine iz (s:=tG i t (g',o')) (fU (fun k=>tG i t (st k)) n _ (by show _=_; simp only [h0]; rfl) (by simp only [qB]; omega) (fun k hk => ?_) ?_) rfl
 ·exact dR (hs k hk) rfl
 ·exact dR he rfl
theorem VE {i t:Int} {g:dE} {o:List dG} {g':dE} {o':List dG} (he:fo (SG i t g o)=some (false,SG i t g' o')):iy (SG i t g o)=some (SG i t g' o') :=
 TC (fun _=>(g,o)) 0 (by omega) rfl (fun k hk=>by omega) he
theorem Tl {i t:Int} {g:dE} {o:List dG} {g1:dE} {o1:List dG} {g':dE} {o':List dG} (h:fo (SG i t g o)=some (true,SG i t g1 o1))
  (he:fo (SG i t g1 o1)=some (false,SG i t g' o')):iy (SG i t g o)=some (SG i t g' o') :=
 TC (fun k=>if k=0 then (g,o) else (g1,o1)) 1 (by omega) rfl (fun k hk=>match k,hk with | 0,_=>h | k+1,hk=>absurd hk (by omega)) he
theorem OG {l:List Int} (h:BA l):mN l [13,10]=match Ar l with | none => -1 | some e=>(e:Int):=Ri h
theorem OM {l:List Int} (h:BA l) (hl:l.length<1000000):QR l [13,10]=some ():=by
 unfold QR
 refine if_pos ⟨List.all_eq_true.2 fun x hx => ?_,rfl,by omega,by decide⟩
 have:=h x hx
 simp only [Bool.and_eq_true,decide_eq_true_eq]; exact this
theorem Mu {i t:Int} {g:dE} {o:List dG} {code:Int} (hc:code≠334) (ho:o.length<100000):eB (SG i t g o) code=some (SG i t g (o++[pX code])):=by
 unfold eB
 refine dR (x:=(pX code).Reply) ?_ (dR (nu (by simp; omega) (by simp; omega)) rfl)
 unfold iF
 by_cases h:200≤code∧code<400
 ·refine iz (s:=(⟨#[111,107]⟩:ByteArray)) (eG (beq_eq_false_iff_ne.2 hc) (dR (x:=true) ?_ rfl)) (by unfold pX; rw [if_pos h])
  exact iz (s:=true) (fm (decide_eq_true h.1) (by rw [decide_eq_true h.2])) rfl
 ·refine iz (s:=(⟨#[110,111]⟩:ByteArray)) (eG (beq_eq_false_iff_ne.2 hc) (dR (x:=false) ?_ rfl)) (by unfold pX; rw [if_neg h])
  unfold qJ
  by_cases h1:200≤code
  ·exact iz (s:=false) (fm (decide_eq_true h1) (by rw [decide_eq_false (by omega)])) rfl
  ·exact iz (s:=false) (eG (decide_eq_false h1) rfl) rfl
theorem IZ {i t:Int} {g:dE} {o:List dG} (h4:g.Phase≠4) (hb:BA g.Buf) (hl:g.Buf.length≤512) (hx:Ar g.Buf=none):fo (SG i t g o)=some (false,SG i t g o):=by
 unfold fo
 refine eG (beq_eq_false_iff_ne.2 h4) (dR (OM hb (by show g.Buf.length<_; omega)) ?_)
 refine eG (decide_eq_false (by show ¬ 0≤mN g.Buf [13,10]; rw [OG hb,hx]; decide)) (fm (decide_eq_true (by show (g.Buf.length:Int)≤512; omega)) rfl)
theorem PA {i t:Int} {g g':dE} {o o':List dG} {e:Nat} (h4:g.Phase≠4) (hb:BA g.Buf) (hl:g.Buf.length<100000) (hx:Ar g.Buf=some e)
  (h:eU (SG i t (sP g (g.Buf.drop (e+2))) o) (lz (g.Buf.take e))=some (SG i t g' o')):fo (SG i t g o)=some (true,SG i t g' o'):=by
 unfold fo
 have hI:mN g.Buf [13,10]=(e:Int):=by rw [OG hb,hx]
 have hL:Uu g.Buf [13,10]=g.Buf.take e:=by unfold Uu; rw [if_pos (by omega),hI]; rfl
 have hR:Qb g.Buf [13,10]=g.Buf.drop (e+2):=by unfold Qb; rw [hI]; rfl
 refine eG (beq_eq_false_iff_ne.2 h4) (dR (OM hb (by show g.Buf.length<_; omega)) (fm (decide_eq_true (by show 0≤mN g.Buf [13,10]; omega)) ?_))
 rw [← hL,← hR] at h
 exact dR rfl (dR h rfl)
theorem Dx {i t x:Int} {g:dE} {o:List dG} (h4:g.Phase≠4):gp (SG i t g o) x=some ((x==10)||decide (512<(g.Buf.length:Int)),SG i t g o):=by
 unfold gp
 refine eG (beq_eq_false_iff_ne.2 h4) ?_
 generalize (x==10)=c
 cases c
 ·exact iz (s:=decide (512<(g.Buf.length:Int))) (eG rfl rfl) rfl
 ·exact iz (s:=true) (fm rfl rfl) rfl
def Ei (i t:Int) (k:Nat) (x:Int) (p q:dE×List dG):Prop :=
 p.1.Buf.length<100000∧∃ c:Bool,(if k=0 then c=true else gp (SG i t (sP p.1 (p.1.Buf++[x])) p.2) x=some (c,SG i t (sP p.1 (p.1.Buf++[x])) p.2)) ∧
  (if c=true then iy (SG i t (sP p.1 (p.1.Buf++[x])) p.2)=some (SG i t q.1 q.2) else q=(sP p.1 (p.1.Buf++[x]),p.2))
theorem QV:sI RB=some 0:=by kernel_rfl
theorem Lv {g:dE} (h1:g.To.length<100000) (h2:g.Buf.length<1000000):sv g=some g:=by
 unfold sv kM pW
 exact dR (dR (nu (k:=40) (l:=[]) (m:=g.To) (by simp; omega) (by simp; omega)) rfl) (dR (dR (nu (k:=1) (l:=[]) (m:=g.Buf) (by simp; omega) (by simp; omega)) rfl) rfl)
theorem Tc {i t:Int} (g:dE) (b:List Int) (st:Nat→dE×List dG) (h0:st 0=(g,[])) (hi:i=0∨i=1) (ht:0≤t∧t≤1099511627776) (hv:nA g=some true) (hb:b.length<1000000)
  (hg:g.To.length<100000∧g.Buf.length<1000000) (he:(st b.length).1.To.length<100000∧(st b.length).1.Buf.length<1000000) (hs:∀ k (hk:k<b.length),Ei i t k b[k] (st k) (st (k+1))) :
  kT RB i t g b=some ((st b.length).1,(st b.length).2,0):=by
 unfold kT
 have hlt:(eb (S:=Bool) (A:=(dE×(List dG)×Int)) (some (.inl false)) (fun _=>none) some:Option (dE×(List dG)×Int))=none:=rfl
 have ha:decide (t<0)=false:=decide_eq_false (by omega)
 have hc:decide (1099511627776<t)=false:=decide_eq_false (by omega)
 refine dR QV (eG rfl (iz (s:=false) ?_ (eG rfl (dR (Lv hg.1 hg.2) ?_))))
 ·rcases hi with rfl | rfl
  ·exact eG rfl (eG ha (eG hc (dR hv rfl)))
  ·exact fm rfl (eG rfl (eG ha (eG hc (dR hv rfl))))
 refine iz (s:=tG i t (st b.length)) (fU (fun k=>((tG i t (st k)).1,(tG i t (st k)).2.1,(tG i t (st k)).2.2.1,(tG i t (st k)).2.2.2.1,(tG i t (st k)).2.2.2.2.1,(tG i t (st k)).2.2.2.2.2.1,(tG i t (st k)).2.2.2.2.2.2.1,(tG i t (st k)).2.2.2.2.2.2.2.1,(tG i t (st k)).2.2.2.2.2.2.2.2.1,(tG i t (st k)).2.2.2.2.2.2.2.2.2.1,(⟨#[97]⟩:ByteArray),(⟨#[98]⟩:ByteArray),9,(⟨#[117]⟩:ByteArray),(⟨#[115]⟩:ByteArray),9000,false,i,t,(st k).2,(k:Int))) b.length _ (by show _=_; simp only [h0]; rfl) (by simp only [qB]; omega) (fun k hk => ?_) ?_) ?_
 ·obtain ⟨h1,c,h2,h3⟩:=hs k hk
  refine fm (decide_eq_true (by omega)) (iz (s:=tG i t (st (k+1))) (dR (gz hk) (dR (SK hk) (dR (nu (k:=1) (l:=(st k).1.Buf) (m:=[b[k]]) (by simp; omega) (by simp; omega)) ?_))) (dR (dS (by omega) (by omega)) rfl))
  have hz:((k:Int)==0)=decide (k=0):=by rw [Bool.eq_iff_iff,decide_eq_true_eq,beq_iff_eq]; omega
  by_cases hk0:k=0
  ·rw [if_pos hk0] at h2; subst h2
   rw [if_pos rfl] at h3
   exact iz (s:=((st k).1.Phase,(st k).1.Helo,(st k).1.From.Null,(st k).1.From.Local,(st k).1.From.Domain,(st k).1.To,(st k).1.Quiet,(st k).1.Buf++[b[k]],(st k).1.Challenge,(st k).1.Proved,(⟨#[97]⟩:ByteArray),(⟨#[98]⟩:ByteArray),9,(⟨#[117]⟩:ByteArray),(⟨#[115]⟩:ByteArray),9000,false,i,t,(st k).2,true)) (fm (by rw [hz]; exact decide_eq_true hk0) rfl) (fm rfl (dR h3 rfl))
  ·rw [if_neg hk0] at h2
   refine iz (s:=((st k).1.Phase,(st k).1.Helo,(st k).1.From.Null,(st k).1.From.Local,(st k).1.From.Domain,(st k).1.To,(st k).1.Quiet,(st k).1.Buf++[b[k]],(st k).1.Challenge,(st k).1.Proved,(⟨#[97]⟩:ByteArray),(⟨#[98]⟩:ByteArray),9,(⟨#[117]⟩:ByteArray),(⟨#[115]⟩:ByteArray),9000,false,i,t,(st k).2,c)) (eG (by rw [hz]; exact decide_eq_false hk0) (dR h2 rfl)) ?_
   cases c
   ·rw [if_neg (by decide)] at h3
    rw [h3]; exact eG rfl rfl
   ·rw [if_pos rfl] at h3
    exact fm rfl (dR h3 rfl)
 ·exact eG (decide_eq_false (by omega)) rfl
 ·exact dR (Lv he.1 he.2) rfl
end Go.Abs.Sh
