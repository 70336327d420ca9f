import Derived.Test.YtjnnkhmhjcjhdaaGreatDoorGatW
namespace Go.Abs.Sh
set_option linter.unusedVariables false
set_option linter.unusedSimpArgs false
set_option maxRecDepth 100000
theorem Xv (ch:ByteArray):FR 0 1 (Hr 3 ch,[]) [82,83,69,84,13,10] (Rz 104 ch,[pX 250]):=lf (i:=0) (t:=1) [82,83,69,84] WN rfl rfl (w6 ch) rfl
theorem Xw (ch:ByteArray):FR 0 1 (Hr 3 ch,[]) [69,72,76,79,32,107,13,10] (Rz 107 ch,[pX 250]):=lf (i:=0) (t:=1) [69,72,76,79,32,107] WN rfl rfl (w7 ch) rfl
theorem Xz (ch:ByteArray):FR 0 1 (Hr 3 ch,[]) [68,65,84,65,13,10,46,13,10] (Rz 104 ch,[pX 354,JK]) :=
 FR.app (a:=[68,65,84,65,13,10]) (lf (i:=0) (t:=1) [68,65,84,65] WN rfl rfl (w8 ch) rfl) (RN ch)
theorem Rn:pY zP zP=some true:=by kernel_rfl
theorem Ex (how:Int) (ch:ByteArray):kO how ch=some true:=by
 unfold kO
 by_cases h:100<(ch.size:Int)
 ·exact fm (decide_eq_true h) rfl
 have hs:ch.size≤100:=by omega
 obtain ⟨ha1,ha2⟩:=OT ch
 have hf1:∀ b,kQ ch 32=some true→b=zK ch→∃ x,kT RB 0 1 (UO ch) ((HB++ed b)++PM)=some (Hr 3 ch,[pX 250,Bu x,pX 235,pX 250,pX 250],0):=fun b hv hb=>by subst hb; exact QS hs hv
 have hra:=Sj hs
 generalize zK ch=A at hra ha1 ha2 hf1
 have c1:=Nu (s:=(⟨#[69,72,76,79,32,104,13,10,65,85,84,72,32,67,82,65,77,45,77,68,53,13,10]⟩:ByteArray)) (t:=A) (by show 23+A.size≤_; omega)
 have e0:ed (⟨#[69,72,76,79,32,104,13,10,65,85,84,72,32,67,82,65,77,45,77,68,53,13,10]⟩:ByteArray)=HB:=rfl
 rw [e0] at c1
 have hb1:BA (HB++ed A):=Fg (Ou _ rfl) (oo _)
 have c2:=Nu (s:=lz (HB++ed A)) (t:=(⟨#[13,10,77,65,73,76,32,70,82,79,77,58,60,120,64,121,62,13,10,82,67,80,84,32,84,79,58,60,114,64,98,62,32,78,79,84,73,70,89,61,78,69,86,69,82,13,10]⟩:ByteArray)) (by rw [Jl,List.length_append,lp]; show 23+A.size+47≤_; omega)
 rw [qH hb1] at c2
 have c3:ed (lz ((HB++ed A)++ed (⟨#[13,10,77,65,73,76,32,70,82,79,77,58,60,120,64,121,62,13,10,82,67,80,84,32,84,79,58,60,114,64,98,62,32,78,79,84,73,70,89,61,78,69,86,69,82,13,10]⟩:ByteArray)))=(HB++ed A)++PM:=qH (Fg hb1 (oo _))
 refine eG (decide_eq_false h) (dR (x:=RB) rfl (dR (x:=UO ch) rfl (dR hra (dR c1 (dR c2 (dR (congrArg some c3) ?_))))))
 obtain ⟨b,hb,hval⟩:=DI hs
 cases b with
 | false =>
  refine dR (QD (i:=0) (t:=1) (g:=UO ch) (.inl rfl) (by decide) (hval _ (Int.natCast_nonneg _) (Int.ofNat_le.2 (Nat.le_of_ble_eq_true rfl)) rfl)) (fm rfl (iz (s:=true) (fm rfl (dR EX rfl)) rfl))
 | true =>
  obtain ⟨x,hx⟩:=hf1 A hb rfl
  refine dR hx (eG rfl (iz (s:=false) (eG rfl (eG rfl (eG rfl rfl))) (eG rfl ?_)))
  obtain ⟨_,q,hq,hr⟩:=Vx how 3 (by decide) (by decide)
  refine dR rfl (dR hr (dR (dS (by omega) (by omega)) (dR (x:=RB) rfl (dR (gz hq) ?_))))
  have hcase:q=0∨q=1∨q=2:=by omega
  rcases hcase with rfl | rfl | rfl
  ·refine dR (x:=(⟨#[82,83,69,84,13,10]⟩:ByteArray)) rfl (dR (x:=[82,83,69,84,13,10]) rfl (dR (Hh hs hb _ 82 [83,69,84,13,10] rfl (by decide) (by decide) (Xv ch) ⟨rfl,rfl⟩) ?_))
   refine iz (s:=false) (eG rfl (eG rfl (dR (x:=0) rfl (dR (x:=0) rfl (dR (x:=pX 250) rfl (eG rfl (dR (x:=0) rfl (dR (x:=0) rfl (dR (x:=pX 250) rfl (dR rfl rfl)))))))))) (eG rfl ?_)
   exact iz (s:=(⟨#[104]⟩:ByteArray)) (eG rfl rfl) (iz (s:=true) (fm rfl (fm rfl (fm rfl (fm rfl (dR Rn (fm rfl (fm (beq_self_eq_true _) (fm (beq_self_eq_true _) (dR EX rfl))))))))) rfl)
  ·refine dR (x:=(⟨#[69,72,76,79,32,107,13,10]⟩:ByteArray)) rfl (dR (x:=[69,72,76,79,32,107,13,10]) rfl (dR (Hh hs hb _ 69 [72,76,79,32,107,13,10] rfl (by decide) (by decide) (Xw ch) ⟨rfl,rfl⟩) ?_))
   refine iz (s:=false) (eG rfl (eG rfl (dR (x:=0) rfl (dR (x:=0) rfl (dR (x:=pX 250) rfl (eG rfl (dR (x:=0) rfl (dR (x:=0) rfl (dR (x:=pX 250) rfl (dR rfl rfl)))))))))) (eG rfl ?_)
   exact iz (s:=(⟨#[107]⟩:ByteArray)) (fm rfl rfl) (iz (s:=true) (fm rfl (fm rfl (fm rfl (fm rfl (dR Rn (fm rfl (fm (beq_self_eq_true _) (fm (beq_self_eq_true _) (dR EX rfl))))))))) rfl)
  ·refine dR (x:=(⟨#[68,65,84,65,13,10,46,13,10]⟩:ByteArray)) rfl (dR (x:=[68,65,84,65,13,10,46,13,10]) rfl (dR (Hh hs hb _ 68 [65,84,65,13,10,46,13,10] rfl (by decide) (by decide) (Xz ch) ⟨rfl,rfl⟩) ?_))
   refine iz (s:=false) (eG rfl (eG rfl (dR (x:=1) rfl (dR (x:=1) rfl (dR (x:=JK) rfl (eG rfl (dR (x:=1) rfl (dR (x:=1) rfl (dR (x:=JK) rfl (dR rfl rfl)))))))))) (eG rfl ?_)
   exact iz (s:=(⟨#[104]⟩:ByteArray)) (eG rfl rfl) (iz (s:=true) (fm rfl (fm rfl (fm rfl (fm rfl (dR Rn (fm rfl (fm (beq_self_eq_true _) (fm (beq_self_eq_true _) (dR EX rfl))))))))) rfl)
end Go.Abs.Sh
