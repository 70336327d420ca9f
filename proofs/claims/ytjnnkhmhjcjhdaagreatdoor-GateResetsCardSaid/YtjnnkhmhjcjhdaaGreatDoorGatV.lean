import Derived.Test.YtjnnkhmhjcjhdaaGreatDoorGatS
import Derived.Test.YtjnnkhmhjcjhdaaGreatDoorGatU
namespace Go.Abs.Sh
set_option linter.unusedVariables false
set_option linter.unusedSimpArgs false
set_option maxRecDepth 100000
/-! Who proves himself. -/
theorem XB (v:Nat) (h:v<64):43≤sg v∧sg v≤122:=by
 have:∀ v,v<64→43≤sg v∧sg v≤122:=by decide+kernel
 exact this v h
theorem UC (p:List Nat):∀ x∈Ft p,43≤x∧x≤122:=by
 intro x hx
 rcases List.mem_append.1 hx with h | h
 ·have h2:=List.mem_of_mem_take h
  simp only [zF,List.mem_cons,List.not_mem_nil,or_false] at h2
  rcases h2 with rfl | rfl | rfl | rfl <;> exact XB _ (Nat.mod_lt _ (by decide))
 ·rw [(List.mem_replicate.1 h).2]; decide
theorem VA:∀ (k:Nat) (p:List Nat),p.length≤k→∀ x∈mP p,43≤x∧x≤122
 | 0,p,h=>by
  obtain rfl:=List.eq_nil_of_length_eq_zero (by omega:p.length=0)
  intro x hx; cases hx
 | k+1,p,h=>by
  match p,h with
  | [],_=>intro x hx; cases hx
  | [a],_=>exact UC [a]
  | [a,b],_=>exact UC [a,b]
  | a::b::c::r,h =>
   intro x hx
   rcases List.mem_append.1 hx with h1 | h1
   ·exact UC _ x h1
   ·exact VA k r (by simp only [List.length_cons] at h; omega) x h1
def Bu (x:ByteArray):dG:=dG.mk (jl.mk 334 [x]) false (fe.mk zP [] [] false (⟨#[]⟩:ByteArray) 0) false
def zK (ch:ByteArray):ByteArray:=tx (mP (KJ [117] (ed (⟨#[115]⟩:ByteArray)) (ed ch)))
theorem Uq:∀ x∈[117],x<256:=by decide
theorem OT (ch:ByteArray):Wz (ed (zK ch))∧(zK ch).size≤100:=by
 have hl:=JV Uq (ed (⟨#[115]⟩:ByteArray)) (ed ch)
 have hn:=FJ [117] (ed (⟨#[115]⟩:ByteArray)) (ed ch)
 refine ⟨?_,?_⟩
 ·unfold zK
  rw [xf (Fs _ _ (Nat.le_refl _))]
  intro x hx
  obtain ⟨y,hy,rfl⟩:=List.mem_map.1 hx
  have:=VA _ _ (Nat.le_refl _) y hy
  simp only [cI]; omega
 ·unfold zK
  rw [Kf,BC _ _ (Nat.le_refl _),hn]
  decide
theorem Sj {ch:ByteArray} (h:ch.size≤100):jW (⟨#[117]⟩:ByteArray) (⟨#[115]⟩:ByteArray) ch=some (zK ch) :=
 NF [117] Uq (by decide) (⟨#[115]⟩:ByteArray) ch (by decide) (by omega)
theorem SL {ch:ByteArray} (h:ch.size≤100) (line:ByteArray):qL (⟨#[117]⟩:ByteArray) (⟨#[115]⟩:ByteArray) ch line=some (decide (line=zK ch)) :=
 PW [117] Uq (by decide) (⟨#[115]⟩:ByteArray) ch line (by decide) (by omega)
theorem Un {ch:ByteArray} (h:ch.size≤100):∃ x,kR (ed ch)=some x:=by
 have e:ed ch=((ed ch).map Int.toNat).map cI:=by
  rw [List.map_map]
  conv=>lhs; rw [← List.map_id (ed ch)]
  refine List.map_congr_left fun x hx => ?_
  have:=oo ch x hx
  simp only [Function.comp,cI,id]; omega
 have h2:=LX ((ed ch).map Int.toNat) (fun x hx=>by
  obtain ⟨y,hy,rfl⟩:=List.mem_map.1 hx
  have:=oo ch y hy; omega) (by rw [List.length_map,lp]; omega)
 rw [← e] at h2
 exact ⟨_,h2⟩
theorem Ua {i t:Int} {g:dE} {o:List dG} {x:ByteArray} (h:kR (ed g.Challenge)=some x) (ho:o.length<100000):eB (SG i t g o) 334=some (SG i t g (o++[Bu x])):=by
 unfold eB
 refine dR (x:=(Bu x).Reply) ?_ (dR (nu (by simp; omega) (by simp; omega)) rfl)
 unfold iF
 exact iz (s:=x) (fm rfl (dR rfl (dR h rfl))) rfl
abbrev Ov (g:dE) (k:Int) (p:Bool):dE:=dE.mk k g.Helo g.From g.To g.Quiet g.Buf g.Challenge p
def VP:List Int:=[65,85,84,72,32,67,82,65,77,45,77,68,53]
theorem Qk:vJ (lz VP)=some (fO.mk 10 (⟨#[]⟩:ByteArray) zP [],0):=by kernel_rfl
theorem Qa {i t:Int} {g:dE} {o:List dG} {x:ByteArray} (h1:g.Phase=1) (hp:g.Proved=false) (h:kR (ed g.Challenge)=some x) (ho:o.length<100000) :
  eU (SG i t g o) (lz VP)=some (SG i t (Ov g 5 false) (o++[Bu x])):=by
 have ha:ma (SG i t g o)=some (334,SG i t (Ov g 5 false) o):=by
  unfold ma
  refine iz (s:=false) (eG (by show (g.Phase != 1)=false; rw [h1]; rfl) (by show some (Sum.inl g.Proved)=_; rw [hp])) (eG rfl ?_)
  show some (334,SG i t (Ov g 5 g.Proved) o)=_
  rw [hp]
 have hc:km (SG i t g o) (fO.mk 10 (⟨#[]⟩:ByteArray) zP [])=some (SG i t (Ov g 5 false) (o++[Bu x])):=by
  unfold km
  exact iz (s:=tG i t (Ov g 5 false,o++[Bu x])) (eG rfl (eG rfl (eG rfl (eG rfl (eG rfl (eG rfl (eG rfl (eG rfl (eG rfl (fm rfl (dR ha (dR (Ua (g:=Ov g 5 false) h ho) rfl)))))))))))) rfl
 unfold eU
 exact iz (s:=tG i t (Ov g 5 false,o++[Bu x])) (eG (by show (g.Phase==6)=false; rw [h1]; rfl) (eG (by show (g.Phase==5)=false; rw [h1]; rfl) (dR Qk (eG rfl (dR hc rfl))))) rfl
theorem QT {i t:Int} {g:dE} {o:List dG} {s:ByteArray} (h5:g.Phase=5) (hp:g.Proved=false) (hs:g.Challenge.size≤100) (b:Bool) (hb:b=decide (s=zK g.Challenge)) (ho:o.length<100000) :
  eU (SG i t g o) s=some (SG i t (Ov g 1 b) (o++[pX (cond b 235 535)])):=by
 have hv:=SL hs s
 rw [← hb] at hv
 have hpr:kY (SG i t g o) s=some (SG i t (Ov g 1 b) (o++[pX (cond b 235 535)])):=by
  unfold kY
  refine dR hv ?_
  cases b
  ·have:=Mu (i:=i) (t:=t) (g:=Ov g 1 g.Proved) (o:=o) (code:=535) (by decide) ho
   rw [hp] at this
   refine fm rfl (dR (x:=SG i t (Ov g 1 false) (o++[pX 535])) ?_ rfl)
   show eB (SG i t (Ov g 1 g.Proved) o) 535=_
   rw [hp]; exact this
  ·exact eG rfl (dR (Mu (i:=i) (t:=t) (g:=Ov g 1 true) (o:=o) (code:=235) (by decide) ho) rfl)
 unfold eU
 exact iz (s:=tG i t (Ov g 1 b,o++[pX (cond b 235 535)])) (eG (by show (g.Phase==6)=false; rw [h5]; rfl) (fm (by show (g.Phase==5)=true; rw [h5]; rfl) (dR hpr rfl))) rfl
theorem NC (s:ByteArray) (h:s.size≤100):∃ b,kQ s 32=some b:=by
 unfold kQ
 have hs:=oo s
 let p:Nat→Bool:=fun i=>decide (32≤(ed s).getD i 0)&&decide ((ed s).getD i 0≤126)
 have hc:∀ i,i<s.size→qy s (i:Int)=some ((ed s).getD i 0):=fun i hi=>by
  rw [Uy hi]; congr 1
  rw [List.getD_eq_getElem?_getD,List.getElem?_eq_getElem (by rw [lp]; exact hi)]; rfl
 have hloop:=Qx (R:=Bool) (f:=fun (s17:Int) =>
   cond ((decide (s17<(s.size:Int))))
    (eb (S:=Bool) (A:=((Int)⊕((Unit)⊕Bool)))
     ((qy s s17).bind fun v2 =>
     cond ((decide (v2<32)))
      (some (.inl true))
      ((qy s s17).bind fun v3 =>
      some (.inl ((decide (126<v3))))))
     (fun (s31:Bool) =>
      cond (s31)
       (some (.inr (.inr (false))))
       ((some (IntKind.i64.wrap (s17+1))).bind fun v9 =>
       some (.inl v9))) some)
    (some (.inr (.inl ())))) p s.size false (fuel:=qB) (by simp only [qB]; omega)
  (fun i hi hp=>by
   have h1:=hc i hi
   simp only [p,Bool.and_eq_true,decide_eq_true_eq] at hp
   refine fm (decide_eq_true (by omega)) (iz (s:=false) (dR h1 (eG (decide_eq_false (by omega)) (dR h1 (by rw [decide_eq_false (by omega)])))) (eG rfl (dR (dS (by omega) (by omega)) rfl))))
  (fun i hi hp=>by
   have h1:=hc i hi
   simp only [p,Bool.and_eq_false_iff,decide_eq_false_iff_not] at hp
   refine fm (decide_eq_true (by omega)) (iz (s:=true) (dR h1 ?_) rfl)
   by_cases h:(ed s).getD i 0<32
   ·exact fm (decide_eq_true h) rfl
   ·exact eG (decide_eq_false h) (dR h1 (by rw [decide_eq_true (by omega)])))
  (eG (decide_eq_false (by omega)) rfl)
 by_cases h:∀ i,i<s.size→p i=true
 ·rw [if_pos h] at hloop
  exact ⟨true,iz hloop rfl⟩
 ·rw [if_neg h] at hloop
  exact ⟨false,Wf hloop rfl⟩
theorem DI {ch:ByteArray} (h:ch.size≤100):∃ b,kQ ch 32=some b∧∀ g:dE,0≤g.Phase→g.Phase≤6→g.Challenge=ch→nA g=some b:=by
 obtain ⟨b,hb⟩:=NC ch h
 refine ⟨b,hb,fun g h0 h6 hc => ?_⟩
 subst hc
 unfold nA
 exact iz (s:=b) (fm (decide_eq_true h0) (fm (decide_eq_true h6) (fm (decide_eq_true (by omega)) (dR hb rfl)))) rfl
abbrev zG:dE:=dE.mk 0 (⟨#[]⟩:ByteArray) zP [] false [] (⟨#[]⟩:ByteArray) false
theorem QD {i t:Int} {g:dE} {b:List Int} (hi:i=0∨i=1) (ht:0≤t∧t≤1099511627776) (hv:nA g=some false):kT RB i t g b=some (zG,[],1):=by
 unfold kT
 have ha:decide (t<0)=false:=decide_eq_false (by omega)
 have hc:decide (1099511627776<t)=false:=decide_eq_false (by omega)
 refine dR QV (eG rfl (iz (s:=true) ?_ (fm rfl rfl)))
 rcases hi with rfl | rfl
 ·exact eG rfl (eG ha (eG hc (dR hv rfl)))
 ·exact fm rfl (eG rfl (eG ha (eG hc (dR hv rfl))))
end Go.Abs.Sh
