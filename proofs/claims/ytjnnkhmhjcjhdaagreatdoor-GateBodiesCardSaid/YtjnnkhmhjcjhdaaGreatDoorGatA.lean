import Derived.Test.YtjnnkhmhjcjhdaaGreatDoorLineM
import Derived.KernelRfl
namespace Go.Abs.Sh
set_option linter.unusedVariables false
set_option linter.unusedSimpArgs false
set_option maxRecDepth 100000
/-! The gate: a session by its steps. -/
abbrev Ge:bq:=bq.mk [(⟨#[97]⟩:ByteArray),(⟨#[98]⟩:ByteArray)] 9 (⟨#[117]⟩:ByteArray) (⟨#[115]⟩:ByteArray) 9000 false
abbrev SG (i t:Int) (g:bp) (o:List bi):aa:=aa.mk g Ge i t o
abbrev tG (i t:Int) (p:bp×List bi):Int×ByteArray×Bool×ByteArray×ByteArray×(List aF)×Bool×(List Int)×ByteArray×Bool×ByteArray×ByteArray×Int×ByteArray×ByteArray×Int×Bool×Int×Int×(List bi) :=
 (p.1.Phase,p.1.Helo,p.1.From.Null,p.1.From.Local,p.1.From.Domain,p.1.To,p.1.Quiet,p.1.Buf,p.1.Challenge,p.1.Proved,(⟨#[97]⟩:ByteArray),(⟨#[98]⟩:ByteArray),9,(⟨#[117]⟩:ByteArray),(⟨#[115]⟩:ByteArray),9000,false,i,t,p.2)
abbrev jy (g:bp) (b:List Int):bp:=bp.mk g.Phase g.Helo g.From g.To g.Quiet b g.Challenge g.Proved
abbrev GZ:aF:=aF.mk false (⟨#[]⟩:ByteArray) (⟨#[]⟩:ByteArray)
def jS (code:Int):bi:=bi.mk (dB.mk code [if 200≤code∧code<400 then (⟨#[111,107]⟩:ByteArray) else (⟨#[110,111]⟩:ByteArray)]) false (bT.mk GZ [] [] false (⟨#[]⟩:ByteArray) 0) false
theorem EO {i t:Int} (st:Nat→bp×List bi) (n:Nat) (hn:n<1000000) {g:bp} {o:List bi} {g':bp} {o':List bi} (h0:st 0=(g,o))
  (hs:∀ k,k<n→bW (SG i t (st k).1 (st k).2)=some (true,SG i t (st (k+1)).1 (st (k+1)).2))
  (he:bW (SG i t (st n).1 (st n).2)=some (false,SG i t g' o')):cP (SG i t g o)=some (SG i t g' o'):=by
 unfold cP
 refine fG (s:=tG i t (g',o')) (kH (fun k=>tG i t (st k)) n _ (by show _=_; simp only [h0]; rfl) (by simp only [kB]; omega) (fun k hk => ?_) ?_) rfl
 ·exact db (hs k hk) rfl
 ·exact db he rfl
theorem GB {i t:Int} {g:bp} {o:List bi} {g':bp} {o':List bi} (he:bW (SG i t g o)=some (false,SG i t g' o')):cP (SG i t g o)=some (SG i t g' o') :=
 EO (fun _=>(g,o)) 0 (by omega) rfl (fun k hk=>by omega) he
theorem EH {i t:Int} {g:bp} {o:List bi} {g1:bp} {o1:List bi} {g':bp} {o':List bi} (h:bW (SG i t g o)=some (true,SG i t g1 o1))
  (he:bW (SG i t g1 o1)=some (false,SG i t g' o')):cP (SG i t g o)=some (SG i t g' o') :=
 EO (fun k=>if k=0 then (g,o) else (g1,o1)) 1 (by omega) rfl (fun k hk=>match k,hk with | 0,_=>h | k+1,hk=>absurd hk (by omega)) he
theorem zM {l:List Int} (h:kC l):fu l [13,10]=match fi l with | none => -1 | some e=>(e:Int):=zj h
theorem zN {l:List Int} (h:kC l) (hl:l.length<1000000):BU l [13,10]=some ():=by
 unfold BU
 refine if_pos ⟨List.all_eq_true.2 fun x hx => ?_,rfl,by omega,by decide⟩
 have:=h x hx
 simp only [Bool.and_eq_true,decide_eq_true_eq]; exact this
theorem uW {i t:Int} {g:bp} {o:List bi} (h4:g.Phase≠4) (hb:kC g.Buf) (hl:g.Buf.length≤512) (hx:fi g.Buf=none):bW (SG i t g o)=some (false,SG i t g o):=by
 unfold bW
 refine cK (beq_eq_false_iff_ne.2 h4) (db (zN hb (by show g.Buf.length<_; omega)) ?_)
 refine cK (decide_eq_false (by show ¬ 0≤fu g.Buf [13,10]; rw [zM hb,hx]; decide)) (cQ (decide_eq_true (by show (g.Buf.length:Int)≤512; omega)) rfl)
theorem Ay {i t:Int} {g g':bp} {o o':List bi} {e:Nat} (h4:g.Phase≠4) (hb:kC g.Buf) (hl:g.Buf.length<100000) (hx:fi g.Buf=some e)
  (h:cm (SG i t (jy g (g.Buf.drop (e+2))) o) (iY (g.Buf.take e))=some (SG i t g' o')):bW (SG i t g o)=some (true,SG i t g' o'):=by
 unfold bW
 have hI:fu g.Buf [13,10]=(e:Int):=by rw [zM hb,hx]
 have hL:Fu g.Buf [13,10]=g.Buf.take e:=by unfold Fu; rw [if_pos (by omega),hI]; rfl
 have hR:By g.Buf [13,10]=g.Buf.drop (e+2):=by unfold By; rw [hI]; rfl
 refine cK (beq_eq_false_iff_ne.2 h4) (db (zN hb (by show g.Buf.length<_; omega)) (cQ (decide_eq_true (by show 0≤fu g.Buf [13,10]; omega)) ?_))
 rw [← hL,← hR] at h
 exact db rfl (db h rfl)
theorem ri {i t x:Int} {g:bp} {o:List bi} (h4:g.Phase≠4):cn (SG i t g o) x=some ((x==10)||decide (512<(g.Buf.length:Int)),SG i t g o):=by
 unfold cn
 refine cK (beq_eq_false_iff_ne.2 h4) ?_
 generalize (x==10)=c
 cases c
 ·exact fG (s:=decide (512<(g.Buf.length:Int))) (cK rfl rfl) rfl
 ·exact fG (s:=true) (cQ rfl rfl) rfl
def qk (i t:Int) (k:Nat) (x:Int) (p q:bp×List bi):Prop :=
 p.1.Buf.length<100000∧∃ c:Bool,(if k=0 then c=true else cn (SG i t (jy p.1 (p.1.Buf++[x])) p.2) x=some (c,SG i t (jy p.1 (p.1.Buf++[x])) p.2)) ∧
  (if c=true then cP (SG i t (jy p.1 (p.1.Buf++[x])) p.2)=some (SG i t q.1 q.2) else q=(jy p.1 (p.1.Buf++[x]),p.2))
theorem FC:jW Ge=some 0:=by kernel_rfl
theorem wI {g:bp} (h1:g.To.length<100000) (h2:g.Buf.length<1000000):jH g=some g:=by
 unfold jH er ib
 exact db (db (ij (k:=40) (l:=[]) (m:=g.To) (by simp; omega) (by simp; omega)) rfl) (db (db (ij (k:=1) (l:=[]) (m:=g.Buf) (by simp; omega) (by simp; omega)) rfl) rfl)
theorem DZ {i t:Int} (g:bp) (b:List Int) (st:Nat→bp×List bi) (h0:st 0=(g,[])) (hi:i=0∨i=1) (ht:0≤t∧t≤1099511627776) (hv:jL g=some true) (hb:b.length<1000000)
  (hg:g.To.length<100000∧g.Buf.length<1000000) (he:(st b.length).1.To.length<100000∧(st b.length).1.Buf.length<1000000) (hs:∀ k (hk:k<b.length),qk i t k b[k] (st k) (st (k+1))) :
  iM Ge i t g b=some ((st b.length).1,(st b.length).2,0):=by
 unfold iM
 have hlt:(bu (S:=Bool) (A:=(bp×(List bi)×Int)) (some (.inl false)) (fun _=>none) some:Option (bp×(List bi)×Int))=none:=rfl
 have ha:decide (t<0)=false:=decide_eq_false (by omega)
 have hc:decide (1099511627776<t)=false:=decide_eq_false (by omega)
 refine db FC (cK rfl (fG (s:=false) ?_ (cK rfl (db (wI hg.1 hg.2) ?_))))
 ·rcases hi with rfl | rfl
  ·exact cK rfl (cK ha (cK hc (db hv rfl)))
  ·exact cQ rfl (cK rfl (cK ha (cK hc (db hv rfl))))
 refine fG (s:=tG i t (st b.length)) (kH (fun k=>((tG i t (st k)).1,(tG i t (st k)).2.1,(tG i t (st k)).2.2.1,(tG i t (st k)).2.2.2.1,(tG i t (st k)).2.2.2.2.1,(tG i t (st k)).2.2.2.2.2.1,(tG i t (st k)).2.2.2.2.2.2.1,(tG i t (st k)).2.2.2.2.2.2.2.1,(tG i t (st k)).2.2.2.2.2.2.2.2.1,(tG i t (st k)).2.2.2.2.2.2.2.2.2.1,(⟨#[97]⟩:ByteArray),(⟨#[98]⟩:ByteArray),9,(⟨#[117]⟩:ByteArray),(⟨#[115]⟩:ByteArray),9000,false,i,t,(st k).2,(k:Int))) b.length _ (by show _=_; simp only [h0]; rfl) (by simp only [kB]; omega) (fun k hk => ?_) ?_) ?_
 ·obtain ⟨h1,c,h2,h3⟩:=hs k hk
  refine cQ (decide_eq_true (by omega)) (fG (s:=tG i t (st (k+1))) (db (jg hk) (db (gg hk) (db (ij (k:=1) (l:=(st k).1.Buf) (m:=[b[k]]) (by simp; omega) (by simp; omega)) ?_))) (db (iA (by omega) (by omega)) rfl))
  have hz:((k:Int)==0)=decide (k=0):=by rw [Bool.eq_iff_iff,decide_eq_true_eq,beq_iff_eq]; omega
  by_cases hk0:k=0
  ·rw [if_pos hk0] at h2; subst h2
   rw [if_pos rfl] at h3
   exact fG (s:=((st k).1.Phase,(st k).1.Helo,(st k).1.From.Null,(st k).1.From.Local,(st k).1.From.Domain,(st k).1.To,(st k).1.Quiet,(st k).1.Buf++[b[k]],(st k).1.Challenge,(st k).1.Proved,(⟨#[97]⟩:ByteArray),(⟨#[98]⟩:ByteArray),9,(⟨#[117]⟩:ByteArray),(⟨#[115]⟩:ByteArray),9000,false,i,t,(st k).2,true)) (cQ (by rw [hz]; exact decide_eq_true hk0) rfl) (cQ rfl (db h3 rfl))
  ·rw [if_neg hk0] at h2
   refine fG (s:=((st k).1.Phase,(st k).1.Helo,(st k).1.From.Null,(st k).1.From.Local,(st k).1.From.Domain,(st k).1.To,(st k).1.Quiet,(st k).1.Buf++[b[k]],(st k).1.Challenge,(st k).1.Proved,(⟨#[97]⟩:ByteArray),(⟨#[98]⟩:ByteArray),9,(⟨#[117]⟩:ByteArray),(⟨#[115]⟩:ByteArray),9000,false,i,t,(st k).2,c)) (cK (by rw [hz]; exact decide_eq_false hk0) (db h2 rfl)) ?_
   cases c
   ·rw [if_neg (by decide)] at h3
    rw [h3]; exact cK rfl rfl
   ·rw [if_pos rfl] at h3
    exact cQ rfl (db h3 rfl)
 ·exact cK (decide_eq_false (by omega)) rfl
 ·exact db (wI he.1 he.2) rfl
end Go.Abs.Sh
