import Derived.Test.YtjnnkhmhjcjhdaaGreatDoorGatE
import Derived.Test.YtjnnkhmhjcjhdaaGreatDoorGatV
namespace Go.Abs.Sh
set_option linter.unusedVariables false
set_option linter.unusedSimpArgs false
set_option maxRecDepth 100000
abbrev VK:cz:=cz.mk false (⟨#[120]⟩:ByteArray) (⟨#[121]⟩:ByteArray)
abbrev gA (k:Int) (ch:ByteArray):dE:=dE.mk k (⟨#[104]⟩:ByteArray) zP [] false [] ch false
abbrev UO (ch:ByteArray):dE:=dE.mk 0 (⟨#[]⟩:ByteArray) zP [] false [] ch false
abbrev Rz (h:Int) (ch:ByteArray):dE:=dE.mk 1 (⟨#[UInt8.ofNat h.toNat]⟩:ByteArray) zP [] false [] ch true
abbrev Xn (ch:ByteArray):dE:=dE.mk 2 (⟨#[104]⟩:ByteArray) VK [] false [] ch true
abbrev Hr (k:Int) (ch:ByteArray):dE:=dE.mk k (⟨#[104]⟩:ByteArray) VK [UE] true [] ch true
theorem w1 (ch:ByteArray):eU (SG 0 1 (UO ch) []) (lz [69,72,76,79,32,104])=some (SG 0 1 (gA 1 ch) [pX 250]):=by kernel_rfl
theorem w4 (ch x:ByteArray):eU (SG 0 1 (Rz 104 ch) [pX 250,Bu x,pX 235]) (lz [77,65,73,76,32,70,82,79,77,58,60,120,64,121,62])=some (SG 0 1 (Xn ch) [pX 250,Bu x,pX 235,pX 250]):=by kernel_rfl
theorem w5 (ch x:ByteArray):eU (SG 0 1 (Xn ch) [pX 250,Bu x,pX 235,pX 250]) (lz [82,67,80,84,32,84,79,58,60,114,64,98,62,32,78,79,84,73,70,89,61,78,69,86,69,82])=some (SG 0 1 (Hr 3 ch) [pX 250,Bu x,pX 235,pX 250,pX 250]):=by kernel_rfl
theorem w6 (ch:ByteArray):eU (SG 0 1 (Hr 3 ch) []) (lz [82,83,69,84])=some (SG 0 1 (Rz 104 ch) [pX 250]):=by kernel_rfl
theorem w7 (ch:ByteArray):eU (SG 0 1 (Hr 3 ch) []) (lz [69,72,76,79,32,107])=some (SG 0 1 (Rz 107 ch) [pX 250]):=by kernel_rfl
theorem w8 (ch:ByteArray):eU (SG 0 1 (Hr 3 ch) []) (lz [68,65,84,65])=some (SG 0 1 (Hr 4 ch) [pX 354]):=by kernel_rfl
def mW:List Int:=[82,101,99,101,105,118,101,100,58,32,102,114,111,109,32,104,32,98,121,32,97,32,119,105,116,104,32,69,83,77,84,80,59,32,49,13,10]
def JK:dG:=dG.mk (pX 250).Reply true (fe.mk VK [UE] mW true (⟨#[104]⟩:ByteArray) 1) false
theorem Vj:Cs [] (⟨#[104]⟩:ByteArray) (⟨#[97]⟩:ByteArray) 1=some (mW,0):=by kernel_rfl
theorem Ut:zj (fe.mk VK [UE] mW false (⟨#[]⟩:ByteArray) 0)=some true:=by kernel_rfl
theorem Sk:ub [46,13,10]=some ([],3,0):=by kernel_rfl
theorem Va (ch:ByteArray) (b:List Int) (o:List dG):kL (SG 0 1 (sP (Hr 4 ch) b) o) []=some (JK,SG 0 1 (sP (Hr 4 ch) b) o):=by
 unfold kL
 refine dR (x:=0) rfl (dR (x:=(⟨#[97]⟩:ByteArray)) rfl (dR Vj (dR (x:=[UE]) rfl (iz (s:=false) (eG rfl (eG rfl (dR Ut rfl))) (eG rfl ?_)))))
 exact dR (QF (g:=sP (Hr 4 ch) b) (o:=o) (code:=250) (by decide)) rfl
theorem w9 (ch:ByteArray):iy (SG 0 1 (sP (Hr 4 ch) [46,13,10]) [pX 354])=some (SG 0 1 (Rz 104 ch) [pX 354,JK]):=by
 refine Tl (g1:=Rz 104 ch) (o1:=[pX 354,JK]) ?_ (LG rfl)
 unfold fo
 refine fm rfl (dR (x:=(true,SG 0 1 (Rz 104 ch) [pX 354,JK])) ?_ rfl)
 unfold mm
 refine dR Sk (eG rfl (dR (QF (g:=sP (Hr 4 ch) [46,13,10]) (o:=[pX 354]) (code:=554) (by decide)) ?_))
 refine iz (s:=(4,(⟨#[104]⟩:ByteArray),false,(⟨#[120]⟩:ByteArray),(⟨#[121]⟩:ByteArray),[UE],true,[46,13,10],ch,true,(⟨#[97]⟩:ByteArray),(⟨#[98]⟩:ByteArray),9,(⟨#[117]⟩:ByteArray),(⟨#[115]⟩:ByteArray),9000,false,0,1,[pX 354],3,250,[(⟨#[111,107]⟩:ByteArray)],true,false,(⟨#[120]⟩:ByteArray),(⟨#[121]⟩:ByteArray),[UE],mW,true,(⟨#[104]⟩:ByteArray),1,false)) (fm rfl (dR (Va ch [46,13,10] [pX 354]) rfl)) ?_
 exact dR (x:=[pX 354,JK]) rfl (dR (x:=[]) rfl (dR rfl rfl))
def HB:List Int:=[69,72,76,79,32,104,13,10,65,85,84,72,32,67,82,65,77,45,77,68,53,13,10]
def PM:List Int:=[13,10,77,65,73,76,32,70,82,79,77,58,60,120,64,121,62,13,10,82,67,80,84,32,84,79,58,60,114,64,98,62,32,78,79,84,73,70,89,61,78,69,86,69,82,13,10]
theorem eW (A:List Int):HB++(A++PM)=[69,72,76,79,32,104]++[13,10]++(VP++[13,10]++(A++[13,10]++([77,65,73,76,32,70,82,79,77,58,60,120,64,121,62]++[13,10]++([82,67,80,84,32,84,79,58,60,114,64,98,62,32,78,79,84,73,70,89,61,78,69,86,69,82]++[13,10])))):=by
 rw [List.append_assoc A]; rfl
theorem UH {n:Nat} (h:Nat.ble (n+1) 100000=true):n<100000:=Nat.le_of_ble_eq_true h
theorem QS {ch:ByteArray} (hs:ch.size≤100) (hv:kQ ch 32=some true):∃ x,kT RB 0 1 (UO ch) ((HB++ed (zK ch))++PM)=some (Hr 3 ch,[pX 250,Bu x,pX 235,pX 250,pX 250],0):=by
 obtain ⟨x,hx⟩:=Un hs
 obtain ⟨b,hb,hval⟩:=DI hs
 obtain rfl:b=true:=Option.some.inj (hb.symm.trans hv)
 obtain ⟨ha1,ha2⟩:=OT ch
 have f1:=lf (i:=0) (t:=1) [69,72,76,79,32,104] Xh rfl rfl (w1 ch) rfl
 have f2:=lf (i:=0) (t:=1) VP Xj rfl rfl (Qa (g:=gA 1 ch) (o:=[pX 250]) rfl rfl hx (UH rfl)) rfl
 have h3:=QT (i:=0) (t:=1) (g:=gA 5 ch) (o:=[pX 250,Bu x]) (s:=lz (ed (zK ch))) rfl rfl hs true (by rw [xK]; exact (decide_eq_true rfl).symm) (UH rfl)
 have f3:=Ox (i:=0) (t:=1) (L:=ed (zK ch)) (g:=gA 5 ch) (by decide:(5:Int)≠4) rfl (oo _) ha1 (by rw [lp]; omega) h3 rfl
 have f4:=lf (i:=0) (t:=1) [77,65,73,76,32,70,82,79,77,58,60,120,64,121,62] Xj rfl rfl (w4 ch x) rfl
 have f5:=lf (i:=0) (t:=1) [82,67,80,84,32,84,79,58,60,114,64,98,62,32,78,79,84,73,70,89,61,78,69,86,69,82] Xy rfl rfl (w5 ch x) rfl
 have hl:((HB++ed (zK ch))++PM).length<1000000:=by
  rw [List.length_append,List.length_append,lp]; show 23+(zK ch).size+47<1000000; omega
 refine ⟨x,?_⟩
 have hf:FR 0 1 (UO ch,[]) ((HB++ed (zK ch))++PM) (Hr 3 ch,[pX 250,Bu x,pX 235,pX 250,pX 250]):=by
  rw [List.append_assoc]
  have e:=eW (ed (zK ch))
  rw [e]
  exact f1.app (f2.app (f3.app (f4.app f5)))
 exact OK (r:=(Hr 3 ch,[pX 250,Bu x,pX 235,pX 250,pX 250])) hf Xh rfl (by decide) (by decide) (.inl rfl) (by decide) (hval _ (Int.natCast_nonneg _) (Int.ofNat_le.2 (Nat.le_of_ble_eq_true rfl)) rfl) hl (UH rfl) ⟨UH rfl,Nat.lt_of_lt_of_le (Nat.lt_succ_self _) (Nat.le_of_ble_eq_true rfl)⟩
theorem RN (ch:ByteArray):FR 0 1 (Hr 4 ch,[pX 354]) [46,13,10] (Rz 104 ch,[pX 354,JK]):=by
 have h1:=RK (i:=0) (t:=1) (g:=Hr 4 ch) (o:=[pX 354]) rfl [46,13,10] (Ou _ rfl) (by decide) 2 (by decide) (fun k h0 h2=>by
  have:k=1∨k=2:=by omega
  rcases this with rfl | rfl <;> decide)
 refine FR.app (a:=[46,13]) (b:=[10]) h1 (.one ⟨UH rfl,true,?_,?_⟩)
 ·rw [if_neg (by decide)]
  exact (Ja (g:=sP (Hr 4 ch) [46,13,10]) rfl (Ou _ rfl) (by show 3<1000000; decide)).trans rfl
 ·rw [if_pos rfl]
  exact w9 ch
theorem Hh {ch:ByteArray} (hs:ch.size≤100) (hv:kQ ch 32=some true) (L:List Int) (x:Int) (xs:List Int) (hx:L=x::xs) (hx2:x≠10∧0≤x∧x<256) (hl:L.length<1000000) {r:dE×List dG} (hf:FR 0 1 (Hr 3 ch,[]) L r) (hr:r.1.To=[]∧r.1.Buf=[]) :
  kT RB 0 1 (Hr 3 ch) L=some (r.1,r.2,0):=by
 obtain ⟨b,hb,hval⟩:=DI hs
 obtain rfl:b=true:=Option.some.inj (hb.symm.trans hv)
 subst hx
 exact OK hf (by decide:(3:Int)≠4) rfl hx2.1 hx2.2 (.inl rfl) (by decide) (hval _ (Int.natCast_nonneg _) (Int.ofNat_le.2 (Nat.le_of_ble_eq_true rfl)) rfl) hl (UH rfl) ⟨by rw [hr.1]; decide,by rw [hr.2]; decide⟩
end Go.Abs.Sh
