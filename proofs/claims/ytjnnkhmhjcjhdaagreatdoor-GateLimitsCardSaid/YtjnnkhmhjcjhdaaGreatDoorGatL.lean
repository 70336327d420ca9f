import Derived.Test.YtjnnkhmhjcjhdaaGreatDoorGatK
namespace Go.Abs.Sh
set_option linter.unusedVariables false
set_option linter.unusedSimpArgs false
set_option maxRecDepth 100000
theorem PJ {k:Nat} (h:8≤k):gL (k+1)=gL k:=by
 show cq.mk _ _ _ (List.replicate (min (k+1) 8) Jk) _ _ _ _=cq.mk _ _ _ (List.replicate (min k 8) Jk) _ _ _ _
 rw [if_neg (by omega),if_neg (by omega),show min (k+1) 8=min k 8 by omega]
theorem xa (n size:Int) (domain:ByteArray):gU n size domain=some true:=by
 unfold gU
 obtain ⟨_,m,hm,hr⟩:=LM n 12 (by decide) (by decide)
 obtain ⟨_,k,hk,hr2⟩:=LM size 3000 (by decide) (by decide)
 refine cJ rfl (cJ hr (cJ (jh (by omega) (by omega)) (cJ rfl (cJ hr2 (cJ (jh (by omega) (by omega)) ?_)))))
 by_cases h2:200<(domain.size:Int)
 ·exact cW (s:=true) (cx (decide_eq_true h2) rfl) (cx rfl rfl)
 refine cW (s := !pL (br domain)) (bY (decide_eq_false h2) (cJ (Lp domain) rfl)) ?_
 cases hd:pL (br domain) with
 | false=>exact cx rfl rfl
 | true =>
 refine bY rfl ?_
 obtain ⟨hdg,_,hdl,hdb,_⟩:=vl hk
 have hsd:(cH (nc k)).size=(nc k).length:=dm _
 have e0:br (⟨#[69,72,76,79,32,104,13,10,77,65,73,76,32,70,82,79,77,58,60,62,32,83,73,90,69,61]⟩:ByteArray)=[69,72,76,79,32,104,13,10]++tA:=rfl
 have c1:=xH (s:=(⟨#[69,72,76,79,32,104,13,10,77,65,73,76,32,70,82,79,77,58,60,62,32,83,73,90,69,61]⟩:ByteArray)) (t:=cH (nc k)) (by rw [hsd]; show 26+(nc k).length≤_; omega)
 rw [e0,cy hdb] at c1
 have hb1:mU (([69,72,76,79,32,104,13,10]++tA)++nc k):=kD (zw _ rfl) hdb
 have c2:=xH (s:=cH (([69,72,76,79,32,104,13,10]++tA)++nc k)) (t:=(⟨#[13,10]⟩:ByteArray)) (by rw [dm,List.length_append]; show 26+(nc k).length+2≤_; omega)
 rw [cy hb1] at c2
 have c3:br (cH ((([69,72,76,79,32,104,13,10]++tA)++nc k)++br (⟨#[13,10]⟩:ByteArray)))=([69,72,76,79,32,104,13,10]++(tA++nc k))++[13,10]:=by
  rw [cy (kD hb1 (dN _))]; rfl
 refine cJ (x:=JN) rfl (cJ (x:=OD) rfl (cJ hdg (cJ c1 (cJ c2 (cJ (congrArg some c3) (cJ (IE hk) ?_))))))
 by_cases hbig:1500<(k:Int)
 ·rw [if_pos hbig,if_pos hbig]
  exact cW (s:=false) (bY rfl rfl) (bY rfl (cx (decide_eq_true hbig) (cW (s:=true) (cJ (x:=1) rfl (cJ (x:=tz 552) rfl (cx rfl (cx rfl (cJ xv rfl))))) rfl)))
 rw [if_neg hbig,if_neg hbig]
 refine cW (s:=false) (bY rfl rfl) (bY rfl (bY (decide_eq_false hbig) (cJ (x:=1) rfl (cJ (x:=tz 250) rfl (bY rfl ?_)))))
 refine cW (s:=((gL m).Phase,(gL m).Helo,(gL m).From.Null,(gL m).From.Local,(gL m).From.Domain,(gL m).To,(gL m).Quiet,(gL m).Buf,(gL m).Challenge,(gL m).Proved))
  (jd (fun i=>((gL i).Phase,(gL i).Helo,(gL i).From.Null,(gL i).From.Local,(gL i).From.Domain,(gL i).To,(gL i).Quiet,(gL i).Buf,(gL i).Challenge,(gL i).Proved,(i:Int))) m _ rfl (by simp only [kz]; omega) (fun i hi => ?_) (bY (decide_eq_false (by omega)) rfl)) ?_
 ·refine cx (decide_eq_true (by omega)) (cJ (x:=JN) rfl (cJ (KH (k:=i) (by omega)) (cW (s:=false) (bY rfl rfl) (bY rfl (cW (s:=false) ?_ (bY rfl (cJ (jh (by omega) (by omega)) rfl)))))))
  have hlen:((List.replicate (min (i+1) 8) Jk).length:Int)=((min (i+1) 8:Nat):Int):=by rw [List.length_replicate]
  by_cases h8:8≤i
  ·rw [if_neg (by omega)]
   have hkeep:=(Gj (k:=i) (by omega)).2.2
   refine cx (decide_eq_true (by omega)) (cJ (x:=0) rfl (cJ (x:=tz 452) rfl (bY rfl (cJ (x:=true) ?_ (bY rfl (bY (decide_eq_false (by omega)) rfl))))))
   rw [PJ h8]; exact hkeep
  ·rw [if_pos (by omega)]
   refine bY (decide_eq_false (by omega)) (cx (decide_eq_true (by omega)) (cJ (x:=0) rfl (cJ (x:=tz 250) rfl (bY rfl (cJ (jh (by omega) (by omega)) ?_)))))
   show some (Sum.inl (((List.replicate (min (i+1) 8) Jk).length:Int) != (i:Int)+1))=some (Sum.inl false)
   rw [hlen,bne_eq_false_iff_eq.2 (by omega)]
 by_cases h8:8≤m
 ·exact cx (decide_eq_true (by omega)) (cJ xv rfl)
 refine bY (decide_eq_false (by omega)) ?_
 have hds:domain.size≤200:=by omega
 have d1:=xH (s:=(⟨#[82,67,80,84,32,84,79,58,60,114,64]⟩:ByteArray)) (t:=domain) (by show 11+domain.size≤_; omega)
 have er:br (⟨#[82,67,80,84,32,84,79,58,60,114,64]⟩:ByteArray)=qU:=rfl
 rw [er] at d1
 have hb2:mU (qU++br domain):=kD (zw _ rfl) (dN _)
 have d2:=xH (s:=cH (qU++br domain)) (t:=(⟨#[62,13,10]⟩:ByteArray)) (by rw [dm,List.length_append,cv]; show 11+domain.size+3≤_; omega)
 rw [cy hb2] at d2
 have d3:br (cH ((qU++br domain)++br (⟨#[62,13,10]⟩:ByteArray)))=(qU++(br domain++[62]))++[13,10]:=by
  rw [cy (kD hb2 (dN _)),List.append_assoc,List.append_assoc,List.append_assoc]; rfl
 obtain ⟨b,hb⟩:∃ b,b=decide (nr domain=(⟨#[97]⟩:ByteArray)∨nr domain=(⟨#[98]⟩:ByteArray)):=⟨_,rfl⟩
 have hkeep:=(Gj (k:=m) (by omega)).2.2
 refine cJ (x:=JN) rfl (cJ d1 (cJ d2 (cJ (congrArg some d3) (cJ (Kk (k:=m) (by omega) hd hds b hb) (cJ (Jf domain (by omega)) ?_)))))
 refine cW (s:=false) (bY rfl (bY rfl (cJ (x:=0) rfl (cJ (x:=tz (cond b 250 550)) rfl ?_)))) (bY rfl ?_)
 ·by_cases ha:nr domain=(⟨#[97]⟩:ByteArray)
  ·have hbt:b=true:=by rw [hb]; exact decide_eq_true (.inl ha)
   rw [hbt]
   exact cx (by rw [gC]; exact decide_eq_true ha) (cJ rfl rfl)
  ·by_cases hb':nr domain=(⟨#[98]⟩:ByteArray)
   ·have hbt:b=true:=by rw [hb]; exact decide_eq_true (.inr hb')
    rw [hbt]
    refine bY (by rw [gC]; exact decide_eq_false ha) ?_
    rw [gC (nr domain) (⟨#[98]⟩:ByteArray),decide_eq_true hb']; rfl
   ·have hbt:b=false:=by rw [hb]; exact decide_eq_false (fun e=>e.elim ha hb')
    rw [hbt]
    refine bY (by rw [gC]; exact decide_eq_false ha) ?_
    rw [gC (nr domain) (⟨#[98]⟩:ByteArray),decide_eq_false hb']; rfl
 ·refine cW (s:=true) (cJ (x:=0) rfl (cJ (x:=tz (cond b 250 550)) rfl ?_)) rfl
  cases b
  ·exact bY rfl (cJ (x:=0) rfl (cJ (x:=tz 550) rfl (cx rfl (cJ hkeep (cx rfl (cJ xv rfl))))))
  ·exact cx rfl (cJ xv rfl)
end Go.Abs.Sh
