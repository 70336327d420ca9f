import Derived.Test.YthceldoojddpiaaDoorGrwE
import Derived.KernelRfl
namespace Go.Abs.Sh
set_option linter.unusedVariables false
set_option linter.unusedSimpArgs false
set_option maxRecDepth 100000
/-! Two blocks: the first is no longer the last. -/
def clr1 (v:Nat):Bool:=decide (bits .andNot .u8 (v:Int) 1=((2 * (v / 2):Nat):Int))&&((List.range 8).all fun t=>(2 * (v / 2)).testBit t==(if t=0 then false else v.testBit t))
theorem clr1_all:(List.range 256).all clr1=true:=by kernel_rfl
theorem clr_at {v:Int} (h:0≤v∧v<256):∃ n:Nat,v=(n:Int)∧n<256∧bits .andNot .u8 v 1=((2 * (n / 2):Nat):Int)∧∀ t,t<8→(2 * (n / 2)).testBit t=if t=0 then false else n.testBit t:=by
 obtain ⟨n,rfl⟩:∃ n:Nat,v=(n:Int):=⟨v.toNat,by omega⟩
 have hn:n<256:=by omega
 have h1:=List.all_eq_true.1 clr1_all n (List.mem_range.2 hn)
 unfold clr1 at h1
 rw [Bool.and_eq_true,decide_eq_true_eq,List.all_eq_true] at h1
 exact ⟨n,rfl,hn,h1.1,fun t ht=>by simpa using h1.2 t (List.mem_range.2 ht)⟩
theorem two_bit {x:List Int} {v:Int} (hx:0<x.length) (h0:x.getD 0 0=v) {n:Nat} (hv:v=(n:Int)) (ht:∀ t,t<8→(2 * (n / 2)).testBit t=if t=0 then false else n.testBit t) (q:Nat):bitC (x.set 0 ((2 * (n / 2):Nat):Int)) q=if q=0 then false else bitC x q:=by
 unfold bitC
 by_cases hq:q / 8=0
 ·rw [hq,h0,hv]
  have e:(x.set 0 ((2 * (n / 2):Nat):Int)).getD 0 0=((2 * (n / 2):Nat):Int):=by
   rw [List.getD_eq_getElem?_getD,List.getElem?_set_self hx]; rfl
  rw [e]
  simp only [Int.toNat_natCast]
  rw [ht (q % 8) (by omega),show q % 8=q by omega]
 ·rw [if_neg (by omega)]
  have e:(x.set 0 ((2 * (n / 2):Nat):Int)).getD (q / 8) 0=x.getD (q / 8) 0:=by
   rw [List.getD_eq_getElem?_getD,List.getD_eq_getElem?_getD,List.getElem?_set_ne (by omega)]
  rw [e]
theorem growTwo_true (a b:List Int) (ha:wfL (wfI .u8) a) (hb:wfL (wfI .u8) b):wherrylaw07_GrowTwo a b=some true:=by
 have hA:=bys ha
 have hB:=bys hb
 unfold wherrylaw07_GrowTwo
 by_cases h1:1500<a.length
 ·exact bndL (s:=true) (cnd_t (decide_eq_true (by omega)) rfl) (cnd_t rfl rfl)
 by_cases h2:1500<b.length
 ·exact bndL (s:=true) (cnd_f (decide_eq_false (by omega)) (inl_ofB (decide_eq_true (by omega)))) (cnd_t rfl rfl)
 refine bndL (s:=false) (cnd_f (decide_eq_false (by omega)) (inl_ofB (decide_eq_false (by omega)))) (cnd_f rfl ?_)
 obtain ⟨s,s1,s2⟩:=storedBlock_eq hA (by omega)
 have hst:shrink_Stored a=some (s.b,0):=by
  unfold shrink_Stored
  exact cnd_f (decide_eq_false (by omega)) (bnd s1 rfl)
 obtain ⟨w,ps,w1,w2,w3,w4⟩:=shr_is hB (by omega)
 have hg:=w2.good
 have hlen:=hg.len
 rw [wid_stQ] at w4
 have sg:=s2.good
 have swid:wid ([(1,1),(0,2),(0,5),(a.length,16),(65535-a.length,16)]++stP a)=40+8 * a.length:=wid_stQ a
 rw [swid] at sg
 have slen:s.b.length=5+a.length:=by rw [sg.len]; omega
 have sp:=s2.sp
 obtain ⟨x,hx⟩:∃ x,x=s.b:=⟨_,rfl⟩
 rw [← hx] at sg slen sp hst
 have hx0:0<x.length:=by omega
 have hxv:0≤x.getD 0 0∧x.getD 0 0<256:=sg.bytes _ (by rw [List.getD_eq_getElem?_getD,List.getElem?_eq_getElem hx0]; exact List.getElem_mem hx0)
 obtain ⟨n,hv,hn,hbit,htb⟩:=clr_at hxv
 have hgt:getO x 0=some (x.getD 0 0):=by unfold getO; rw [List.getD_eq_getElem?_getD,List.getElem?_eq_getElem hx0]; rfl
 have hbits:=two_bit hx0 rfl hv htb
 obtain ⟨y,hy⟩:∃ y,y=x.set 0 ((2 * (n / 2):Nat):Int):=⟨_,rfl⟩
 rw [← hy] at hbits
 have ylen:y.length=5+a.length:=by rw [hy,List.length_set,slen]
 have yB:isB y:=fun z hz=>by
  rw [hy] at hz
  rcases List.mem_or_eq_of_mem_set hz with h | h
  ·exact sg.bytes z h
  ·rw [h]; omega
 have ysp:Sp ([(0,1),(0,2)]++([(0,5),(a.length,16),(65535-a.length,16)]++stP a)) 0 y:=by
  obtain ⟨_,q2⟩:=sp
  refine ⟨fun t ht => ?_,?_⟩
  ·rw [hbits,if_pos (by omega)]; simp
  ·have hk:∀ (qs:List (Nat×Nat)) (N:Nat),1≤N→Sp qs N x→Sp qs N y:=by
    intro qs
    induction qs with
    | nil=>intro N _ _; trivial
    | cons p qs ih=>exact fun N hN h=>⟨fun t ht=>by rw [hbits,if_neg (by omega)]; exact h.1 t ht,ih _ (by omega) h.2⟩
   exact hk _ _ (by omega) q2
 obtain ⟨B,hBd⟩:∃ B,B=y++w.b:=⟨_,rfl⟩
 have hBl:B.length=5+a.length+w.b.length:=by rw [hBd,List.length_append,ylen]
 have hBB:isB B:=fun z hz=>by
  rw [hBd] at hz
  exact (List.mem_append.1 hz).elim (yB z) (hg.bytes z)
 have hsw:wid ([(0,1),(0,2)]++([(0,5),(a.length,16),(65535-a.length,16)]++stP a))=40+8 * a.length:=by
  rw [wid_app,wid_app,wid_st]
  have e1:wid [(0,1),(0,2)]=3:=rfl
  have e2:wid [(0,5),(a.length,16),(65535-a.length,16)]=37:=rfl
  omega
 have sp1:Sp ([(0,1),(0,2)]++([(0,5),(a.length,16),(65535-a.length,16)]++stP a)) 0 B:=by
  rw [hBd]
  exact Sp_left y w.b (by rw [hsw]; omega) ysp
 have sp2:Sp ps (40+8 * a.length) B:=by
  have:=Sp_right y w.b ps 0 w2.sp
  rw [ylen,show 8 * (5+a.length)+0=40+8 * a.length by omega] at this
  rw [hBd]; exact this
 obtain ⟨k1,_⟩:=gstor hA (by omega) hBB (by omega) (f:=0) (P:=0) (most:=4096) (by omega) (bl:=((0:Nat):Int)) (by omega) (by omega) (out:=[]) (by simp) sp1 (by omega)
 have k1:=k1 (by rw [List.length_nil]; omega)
 rw [List.nil_append,Nat.zero_add] at k1
 have hchk:chkF (toksS b) a.length=some (a.length+b.length):=by
  have:=chk_toks b a.length b.length 0 (by omega) (by omega)
  simpa [toksS] using this
 have hex:exF (toksS b) a=a++b:=by
  have:=ex_toks b a b.length 0 (by omega) (by omega)
  simpa [toksS] using this
 obtain ⟨k2,_⟩:=gshr hB (by omega) w3 hBB (by omega) (P:=40+8 * a.length) (by omega) (bl:=((1:Nat):Int)) (most:=4096) (by omega) (out:=a) hchk hex (by omega) sp2 (by omega)
 have k2:=k2 (by omega)
 have hl1:=gd_last (by omega) k2 (BIG-3)
 have hl2:loopF gdS BIG (B,0,[],4096,0,false)=some (.inl (B,((40+8 * a.length+wid ps:Nat):Int),a++b,4096,((2:Nat):Int))):=by
  have eB:BIG=(BIG-3+2)+1:=by simp only [BIG]
  rw [eB]
  refine (loop_next (s':=(B,((40+8 * a.length:Nat):Int),a,4096,((1:Nat):Int),false)) ?_).trans hl1
  unfold gdS
  exact cnd_t rfl (bnd k1 (cnd_f rfl (bnd (congrArg some (wrap_succ (n:=0) (by omega))) rfl)))
 have hz:∀ q,40+8 * a.length+wid ps≤q→bitC B q=false:=fun q hq=>by
  have e:q=8 * y.length+(q-(40+8 * a.length)):=by omega
  rw [e,hBd,bitC_right]
  exact hg.zero _ (by omega)
 have hrd:=gread_fin (by omega) (by omega) (by omega) hl2 (gend hBB (by omega) (by omega) (by omega) hz)
 have q1:=ggrow_ok hrd
 have q2:=gblocks_ok hrd
 have hap:appO 1 y w.b=some B:=by
  unfold appO
  rw [if_pos (by omega),hBd]
 have htw:wherrykeep_Twin a=some a:=by
  unfold wherrykeep_Twin
  exact bnd (x:=a) (by unfold appO; rw [if_pos (by simp; omega)]; simp) rfl
 have hap2:appO 1 a b=some (a++b):=by
  unfold appO
  rw [if_pos (by omega)]
 refine bnd hst (bnd w1 (bndL (s:=false) (cnd_f rfl (cnd_f rfl (inl_ofB (beq_eq_false_iff_ne.2 (by dsimp only; omega))))) (cnd_f rfl ?_)))
 refine bnd (ixO_of (i:=0) hx0) (bnd hgt (bnd (congrArg some hbit) (bnd (ixO_of (i:=0) hx0) (bnd (congrArg some hy.symm) (bnd hap (bnd q1 (bnd hap (bnd q2 ?_))))))))
 exact bndL (s:=true) (cnd_t rfl (cnd_t rfl (cnd_t rfl (bnd htw (bnd hap2 (bnd (gkeep (a:=a++b) (by rw [List.length_append]; omega)) (cnd_t rfl (bnd wakes7 rfl)))))))) rfl
end Go.Abs.Sh
