import Derived.Test.YtjnnkhmhjcjhdaaGreatDoorGatJ
namespace Go.Abs.Sh
set_option linter.unusedVariables false
set_option linter.unusedSimpArgs false
set_option maxRecDepth 100000
abbrev gL (k:Nat):cq:=cq.mk (if k=0 then 2 else 3) (⟨#[104]⟩:ByteArray) zN (List.replicate (min k 8) Jk) false [] (⟨#[]⟩:ByteArray) false
theorem PN:dz (SG 0 1 OD []) (cH [69,72,76,79,32,104])=some (SG 0 1 gE [tz 250]):=by kernel_rfl
theorem Js (d:ByteArray):lJ (dA.mk 2 (⟨#[]⟩:ByteArray) zN [bX.mk BL d]) (⟨#[83,73,90,69]⟩:ByteArray)=some (d,true):=by
 unfold lJ
 refine yJ (a:=(d,true)) (jd (fun _=>0) 0 _ rfl (by decide) (fun i hi=>absurd hi (Nat.not_lt_zero i)) ?_) rfl
 exact cx rfl (cJ (x:=0) rfl (cJ (x:=bX.mk BL d) rfl (cx (by kernel_rfl) rfl)))
theorem NK {o:List cc} {s d:ByteArray} {n:Int} (ho:o.length<100000) (hp:jr s=some (dA.mk 2 (⟨#[]⟩:ByteArray) zN [bX.mk BL d],0)) (hn:jI d=some n) :
  dz (SG 0 1 gE o) s=some (SG 0 1 (if 1500<n then gE else gL 0) (o++[tz (if 1500<n then 552 else 250)])):=by
 have hm:iE (SG 0 1 gE o) (dA.mk 2 (⟨#[]⟩:ByteArray) zN [bX.mk BL d])=some (if 1500<n then 552 else 250,SG 0 1 (if 1500<n then gE else gL 0) o):=by
  unfold iE
  refine cJ (Js d) (cJ hn (bY rfl ?_))
  by_cases h:1500<n
  ·rw [if_pos h,if_pos h]; exact cx (decide_eq_true h) rfl
  ·rw [if_neg h,if_neg h]; exact bY (decide_eq_false h) rfl
 have hc:eI (SG 0 1 gE o) (dA.mk 2 (⟨#[]⟩:ByteArray) zN [bX.mk BL d])=some (SG 0 1 (if 1500<n then gE else gL 0) (o++[tz (if 1500<n then 552 else 250)])):=by
  have hne:(if 1500<n then (552:Int) else 250)≠334:=by split <;> decide
  unfold eI
  exact cW (s:=tG 0 1 (if 1500<n then gE else gL 0,o++[tz (if 1500<n then 552 else 250)])) (bY rfl (bY rfl (bY rfl (bY rfl (bY rfl (cx rfl (cJ hm (cJ (zB (g:=if 1500<n then gE else gL 0) hne ho) rfl)))))))) rfl
 unfold dz
 exact cW (s:=tG 0 1 (if 1500<n then gE else gL 0,o++[tz (if 1500<n then 552 else 250)])) (bY rfl (bY rfl (cJ hp (bY rfl (cJ hc rfl))))) rfl
theorem vl {k:Nat} (h:k<3000):gh (k:Int)=some (cH (nc k))∧(nc k).all (fun x=>decide (48≤x)&&decide (x≤57))=true∧(nc k).length≤4∧mU (nc k) ∧
  (∀ o:List cc,o.length<100000→dz (SG 0 1 gE o) (cH (tA++nc k))=some (SG 0 1 (if 1500<(k:Int) then gE else gL 0) (o++[tz (if 1500<(k:Int) then 552 else 250)]))):=by
 have hc:=KI k h
 unfold Aq at hc
 simp only [Bool.and_eq_true,decide_eq_true_eq] at hc
 obtain ⟨h1,h2,h3,h4⟩:=hc
 have hb:mU (nc k):=fun x hx=>by
  have:=List.all_eq_true.1 h3 x hx
  simp only [Bool.and_eq_true,decide_eq_true_eq] at this
  omega
 refine ⟨Ia k (by omega),h3,h4,hb,fun o ho=>NK ho ?_ h2⟩
 rw [Gr,cy (kD (zw tA rfl) hb),h1]
theorem IE {k:Nat} (h:k<3000):im JN 0 1 OD (([69,72,76,79,32,104,13,10]++(tA++nc k))++[13,10])=some (if 1500<(k:Int) then gE else gL 0,[tz 250,tz (if 1500<(k:Int) then 552 else 250)],0):=by
 obtain ⟨h1,h2,h3,h4,h5⟩:=vl h
 have f1:=lf (i:=0) (t:=1) [69,72,76,79,32,104] PB rfl rfl PN rfl
 have hcl:Ob (tA++nc k):=fun x hx=>by
  rcases List.mem_append.1 hx with hx | hx
  ·exact Mr tA rfl x hx
  ·have:=List.all_eq_true.1 h2 x hx
   simp only [Bool.and_eq_true,decide_eq_true_eq] at this
   omega
 have hlen:(tA++nc k).length≤510:=by rw [List.length_append]; show 18+(nc k).length≤510; omega
 have f2:=Cc (i:=0) (t:=1) (g:=gE) (o:=[tz 250]) (L:=tA++nc k) PS rfl (kD (zw tA rfl) h4) hcl hlen (h5 [tz 250] (Nat.lt_of_lt_of_le (Nat.lt_succ_self _) (Nat.le_of_ble_eq_true rfl))) (by split <;> rfl)
 have hl2:([69,72,76,79,32,104,13,10]++((tA++nc k)++[13,10])).length<1000000:=by
  rw [List.length_append,List.length_append]; show 8+((tA++nc k).length+2)<1000000; omega
 rw [List.append_assoc]
 exact CC (r:=(if 1500<(k:Int) then gE else gL 0,[tz 250,tz (if 1500<(k:Int) then 552 else 250)])) (f1.app f2) PB rfl (by decide) (by decide) (.inl rfl) (by decide) (by kernel_rfl) hl2 (by decide) (by show (if 1500<(k:Int) then gE else gL 0).To.length<100000∧(if 1500<(k:Int) then gE else gL 0).Buf.length<1000000; split <;> decide)
end Go.Abs.Sh
