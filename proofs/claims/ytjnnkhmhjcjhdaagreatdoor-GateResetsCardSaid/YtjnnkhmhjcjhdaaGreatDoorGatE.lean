import Derived.Test.YtjnnkhmhjcjhdaaGreatDoorGatD
namespace Go.Abs.Sh
set_option linter.unusedVariables false
set_option linter.unusedSimpArgs false
set_option maxRecDepth 100000
/-! A body,byte by byte. -/
def Ub (l:List Int):Bool:=decide (l=[46,13,10])||decide (5≤l.length∧l.drop (l.length-5)=[13,10,46,13,10])
theorem Mw {a:List Int} (h:BA a) (s:ByteArray):((lz a).toList==s.toList)=decide (a=ed s):=by
 rw [GC,Bool.eq_iff_iff,decide_eq_true_eq,decide_eq_true_eq,MD,qH h]
theorem Po {l:List Int} (h:BA l) (hl:l.length<1000000):nE l [13,10,46,13,10]=some (decide (5≤l.length∧l.drop (l.length-5)=[13,10,46,13,10])):=by
 unfold nE
 by_cases h5:5≤l.length
 ·refine iz (s:=decide (5≤l.length∧l.drop (l.length-5)=[13,10,46,13,10])) (fm (decide_eq_true (by show ((5:Nat):Int)≤(l.length:Int); omega)) (dR (x:=((l.length-5:Nat):Int)) ?_ (dR (x:=l.drop (l.length-5)) ?_ (dR (x:=decide (l.drop (l.length-5)=[13,10,46,13,10])) ?_ ?_)))) rfl
  ·show some (IntKind.i64.wrap ((l.length:Int)-((5:Nat):Int)))=_
   rw [Hf (by omega) (by omega)]; congr 1; omega
  ·rw [Cu l (by omega) (Nat.le_refl _),List.take_of_length_le (by rw [List.length_drop]; omega)]
  ·unfold sO
   refine dR rfl (dR rfl (congrArg some ?_))
   rw [Mw (Qi h _)]; rfl
  ·congr 2
   rw [Bool.eq_iff_iff,decide_eq_true_eq,decide_eq_true_eq]
   exact ⟨fun e=>⟨h5,e⟩,fun e=>e.2⟩
 ·refine iz (s:=false) (eG (decide_eq_false (by show ¬ ((5:Nat):Int)≤(l.length:Int); omega)) rfl) ?_
  rw [decide_eq_false (fun e=>h5 e.1)]
theorem Ja {i t x:Int} {g:dE} {o:List dG} (h4:g.Phase=4) (hb:BA g.Buf) (hl:g.Buf.length<1000000):gp (SG i t g o) x=some (Ub g.Buf,SG i t g o):=by
 unfold gp
 refine fm (beq_iff_eq.2 h4) ?_
 unfold Ub
 have e:=Mw hb (⟨#[46,13,10]⟩:ByteArray)
 have e2:ed (⟨#[46,13,10]⟩:ByteArray)=[46,13,10]:=rfl
 rw [e2] at e
 by_cases h:g.Buf=[46,13,10]
 ·rw [decide_eq_true h] at e
  rw [decide_eq_true h]
  exact iz (s:=true) (dR rfl (fm e rfl)) rfl
 ·rw [decide_eq_false h] at e
  rw [decide_eq_false h]
  exact iz (s:=decide (5≤g.Buf.length∧g.Buf.drop (g.Buf.length-5)=[13,10,46,13,10])) (dR rfl (eG e (dR (Po hb hl) rfl))) rfl
theorem RK {i t:Int} {g:dE} {o:List dG} (h4:g.Phase=4) (D:List Int) (hb:BA D) (hl:D.length<90000):∀ n,n≤D.length→(∀ k,0<k→k≤n→Ub (D.take k)=false)→FR i t (sP g [],o) (D.take n) (sP g (D.take n),o):=by
 intro n
 induction n with
 | zero=>intro _ _; rw [List.take_zero]; exact .nil _
 | succ n ih =>
  intro hn hk
  have h1:=ih (by omega) (fun k h0 h=>hk k h0 (by omega))
  have e:D.take (n+1)=D.take n++[D[n]]:=by rw [List.take_add_one,List.getElem?_eq_getElem (by omega)]; rfl
  have hx:=hk (n+1) (by omega) (Nat.le_refl _)
  have hb':=QQ hb (n+1)
  rw [e] at hx hb' ⊢
  refine h1.app (.one ⟨by show (D.take n).length<_; rw [List.length_take]; omega,false,?_,rfl⟩)
  rw [if_neg (by decide)]
  refine (Ja (g:=sP g (D.take n++[D[n]])) h4 hb' (by show (D.take n++[D[n]]).length<_; rw [List.length_append,List.length_take]; show min n D.length+1<_; omega)).trans ?_
  exact congrArg (fun c=>some (c,SG i t (sP g (D.take n++[D[n]])) o)) hx
theorem QF {i t:Int} {g:dE} {o:List dG} {code:Int} (hc:code≠334):iS (SG i t g o) code=some ((pX code).Reply,SG i t g o):=by
 unfold iS
 by_cases h:200≤code∧code<400
 ·refine iz (s:=(⟨#[111,107]⟩:ByteArray)) (eG (beq_eq_false_iff_ne.2 hc) (dR (x:=true) ?_ rfl)) (by unfold pX; rw [if_pos h]; rfl)
  exact iz (s:=true) (fm (decide_eq_true h.1) (by rw [decide_eq_true h.2])) rfl
 ·refine iz (s:=(⟨#[110,111]⟩:ByteArray)) (eG (beq_eq_false_iff_ne.2 hc) (dR (x:=false) ?_ rfl)) (by unfold pX; rw [if_neg h]; rfl)
  unfold qJ
  by_cases h1:200≤code
  ·exact iz (s:=false) (fm (decide_eq_true h1) (by rw [decide_eq_false (by omega)])) rfl
  ·exact iz (s:=false) (eG (decide_eq_false h1) rfl) rfl
end Go.Abs.Sh
