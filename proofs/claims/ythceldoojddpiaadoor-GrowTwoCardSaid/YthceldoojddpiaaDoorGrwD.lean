import Derived.Test.YthceldoojddpiaaDoorGrwC
import Derived.KernelRfl
namespace Go.Abs.Sh
set_option linter.unusedVariables false
set_option linter.unusedSimpArgs false
set_option maxRecDepth 100000
theorem used_end (l:List T_Tok):0<(wtN l).1.getD 256 0:=by
 have h1:wts0.1.getD 256 0=1:=by kernel_rfl
 have h2:=(fold_mono l wts0 256).1
 unfold wtN
 omega
theorem gkeep {a:List Int} (h:a.length<4294967296):wherrykeep_Bytes a a=some true:=by
 rw [keepBytes_eq a a h,decide_eq_true rfl]
theorem wakes7:wherrylaw07_wakes=some true:=by kernel_rfl
theorem shr_is {b:List Int} (hb:∀ n∈b,0≤n∧n<256) (hl:b.length≤4096):∃ w ps,shrink_Shrink b=some (w.b,0)∧WP w ps∧(ps=stQ b∨ps=fxP (toksS b)∨ps=dynP (toksS b))∧wid ps≤wid (stQ b):=by
 obtain ⟨s,s2,s3⟩:=storedBlock_eq hb (by omega)
 obtain ⟨f,_,f2,f3⟩:=fixed_is hb hl
 obtain ⟨d,d2,d3⟩:=dynamicBlock_eq (tl_5000 hl) (toksS_ok hb) (check_toks hl)
 have ns:s.n=((wid (stQ b):Nat):Int):=s3.n
 have nf:=f3.n
 have nd:d.n=((wid (dynP (toksS b)):Nat):Int):=d3.n
 have key:shrink_Shrink b=some ((if d.n<(if f.n<s.n then f.n else s.n) then d.b else if f.n<s.n then f.b else s.b),0):=by
  unfold shrink_Shrink
  exact bnd (tokens_eq hb hl) (cnd_f rfl (bnd s2 (bnd f2 (bnd d2 rfl))))
 rw [key]
 by_cases h1:f.n<s.n
 ·simp only [if_pos h1]
  by_cases h2:d.n<f.n
  ·simp only [if_pos h2]
   exact ⟨d,_,rfl,d3,.inr (.inr rfl),by omega⟩
  ·simp only [if_neg h2]
   exact ⟨f,_,rfl,f3,.inr (.inl rfl),by omega⟩
 ·simp only [if_neg h1]
  by_cases h2:d.n<s.n
  ·simp only [if_pos h2]
   exact ⟨d,_,rfl,d3,.inr (.inr rfl),by omega⟩
  ·simp only [if_neg h2]
   exact ⟨s,_,rfl,s3,.inl rfl,Nat.le_refl _⟩
theorem ghead {B:List Int} (hB:isB B) (hbl:B.length≤10000) {f k P:Nat} (hf:f<2) (hk:k<4) (hP:P+3≤8 * B.length) (hs:Sp [(f,1),(k,2)] P B) {out:List Int} {most bl:Int} :
  grow_stream_number (T_grow_stream.mk B (P:Int) out most bl) 1=some ((f:Int),0,T_grow_stream.mk B ((P+1:Nat):Int) out most bl)∧grow_stream_number (T_grow_stream.mk B ((P+1:Nat):Int) out most bl) 2=some ((k:Int),0,T_grow_stream.mk B ((P+3:Nat):Int) out most bl):=by
 obtain ⟨s1,s2,_⟩:=hs
 exact ⟨gnum (n:=1) hB hbl (by omega) (by omega) (by omega) s1,gnum (P:=P+1) (n:=2) (v:=k) hB hbl (by omega) (by omega) (by omega) s2⟩
theorem gblk0 {B:List Int} (hB:isB B) (hbl:B.length≤10000) {f P:Nat} (hf:f<2) (hP:P+3≤8 * B.length) (hs:Sp [(f,1),(0,2)] P B) {out:List Int} {most bl e:Int} {s:T_grow_stream} (h:grow_stream_stored (T_grow_stream.mk B ((P+3:Nat):Int) out most bl)=some (e,s)) :
  grow_stream_block (T_grow_stream.mk B (P:Int) out most bl)=some (((f:Int)==1),e,T_grow_stream.mk s.b s.at_ s.out s.most s.blocks):=by
 obtain ⟨g1,g2⟩:=ghead (out:=out) (most:=most) (bl:=bl) hB hbl hf (k:=0) (by omega) hP hs
 unfold grow_stream_block
 exact bnd g1 (cnd_f rfl (bnd g2 (cnd_f rfl (bndL (bndL (cnd_t rfl (bnd h rfl)) rfl) rfl))))
theorem gblk1 {B:List Int} (hB:isB B) (hbl:B.length≤10000) {f P:Nat} (hf:f<2) (hP:P+3≤8 * B.length) (hs:Sp [(f,1),(1,2)] P B) {out:List Int} {most bl e:Int} {s:T_grow_stream} (h:grow_stream_tokens (T_grow_stream.mk B ((P+3:Nat):Int) out most bl) (ints mL) (ints mD)=some (e,s)) :
  grow_stream_block (T_grow_stream.mk B (P:Int) out most bl)=some (((f:Int)==1),e,T_grow_stream.mk s.b s.at_ s.out s.most s.blocks):=by
 obtain ⟨g1,g2⟩:=ghead (out:=out) (most:=most) (bl:=bl) hB hbl hf (k:=1) (by omega) hP hs
 unfold grow_stream_block
 exact bnd g1 (cnd_f rfl (bnd g2 (cnd_f rfl (bndL (bndL (cnd_f rfl (cnd_t rfl (bnd fixed_ints (bnd h rfl)))) rfl) rfl))))
theorem gblk2 {B:List Int} (hB:isB B) (hbl:B.length≤10000) {f P:Nat} (hf:f<2) (hP:P+3≤8 * B.length) (hs:Sp [(f,1),(2,2)] P B) {out:List Int} {most bl e:Int} {s:T_grow_stream} (h:grow_stream_dynamic (T_grow_stream.mk B ((P+3:Nat):Int) out most bl)=some (e,s)) :
  grow_stream_block (T_grow_stream.mk B (P:Int) out most bl)=some (((f:Int)==1),e,T_grow_stream.mk s.b s.at_ s.out s.most s.blocks):=by
 obtain ⟨g1,g2⟩:=ghead (out:=out) (most:=most) (bl:=bl) hB hbl hf (k:=2) (by omega) hP hs
 unfold grow_stream_block
 exact bnd g1 (cnd_f rfl (bnd g2 (cnd_f rfl (bndL (bndL (cnd_f rfl (cnd_f rfl (cnd_t rfl (bnd h rfl)))) rfl) rfl))))
theorem gfixed {b:List Int} (hb:∀ n∈b,0≤n∧n<256) (hl:b.length≤4096) {B:List Int} (hB:isB B) (hbl:B.length≤10000) {P most:Nat} {bl:Int} (hm2:most≤5000) {out:List Int} (hc:chkF (toksS b) out.length=some (out.length+b.length)) (hx:exF (toksS b) out=out++b) (ho:out.length≤most) (hs:Sp (fxP (toksS b)) P B) (hP:P+wid (fxP (toksS b))≤8 * B.length) :
  (out.length+b.length≤most→grow_stream_block (T_grow_stream.mk B (P:Int) out (most:Int) bl)=some (true,0,T_grow_stream.mk B ((P+wid (fxP (toksS b)):Nat):Int) (out++b) (most:Int) bl)) ∧
  (most<out.length+b.length→∃ s,grow_stream_block (T_grow_stream.mk B (P:Int) out (most:Int) bl)=some (true,2,s)):=by
 unfold fxP at hs hP ⊢
 obtain ⟨h1,h2⟩:=(Sp_app _ _ _ _).1 hs
 have hwid:wid [(1,1),(1,2)]=3:=rfl
 rw [wid_app,hwid] at hP ⊢
 rw [hwid] at h2
 have hok:∀ t∈toksS b,okTk t∧usedC mL mD t:=fun t ht=>⟨toksS_ok hb t ht,fix_usedC (toksS_ok hb t ht)⟩
 refine ⟨fun hr => ?_,fun hr => ?_⟩
 ·have ht:=gtext_ok cd_mL cd_mD hB hbl (by decide) (bl:=bl) hm2 hr (l:=toksS b) (P:=P+3) (tl_5000 hl) hok hc (by omega) h2
  rw [hx] at ht
  rw [← Nat.add_assoc]
  exact gblk1 hB hbl (f:=1) (by omega) (by omega) h1 ht
 ·obtain ⟨s,ht⟩:=gtext_no cd_mL cd_mD hB hbl (bl:=bl) hm2 hr (l:=toksS b) (P:=P+3) (tl_5000 hl) hok hc ho (by omega) h2
  exact ⟨_,gblk1 hB hbl (f:=1) (by omega) (by omega) h1 ht⟩
theorem gstor {b:List Int} (hb:∀ n∈b,0≤n∧n<256) (hl:b.length≤4096) {B:List Int} (hB:isB B) (hbl:B.length≤10000) {f P most:Nat} (hf:f<2) {bl:Int} (h0:P % 8=0) (hm2:most≤5000) {out:List Int} (ho:out.length≤most) (hs:Sp ([(f,1),(0,2)]++([(0,5),(b.length,16),(65535-b.length,16)]++stP b)) P B) (hP:P+40+8 * b.length≤8 * B.length) :
  (out.length+b.length≤most→grow_stream_block (T_grow_stream.mk B (P:Int) out (most:Int) bl)=some (((f:Int)==1),0,T_grow_stream.mk B ((P+40+8 * b.length:Nat):Int) (out++b) (most:Int) bl)) ∧
  (most<out.length+b.length→∃ s,grow_stream_block (T_grow_stream.mk B (P:Int) out (most:Int) bl)=some (((f:Int)==1),2,s)):=by
 obtain ⟨h1,h2⟩:=(Sp_app _ _ _ _).1 hs
 rw [show wid [(f,1),(0,2)]=3 from rfl] at h2
 obtain ⟨k1,k2⟩:=gstored hb hl hB hbl (bl:=bl) h0 hm2 h2 hP ho
 refine ⟨fun hr=>gblk0 hB hbl hf (by omega) h1 (k1 hr),fun hr => ?_⟩
 obtain ⟨s,h⟩:=k2 hr
 exact ⟨_,gblk0 hB hbl hf (by omega) h1 h⟩
theorem gdynb {b:List Int} (hb:∀ n∈b,0≤n∧n<256) (hl:b.length≤4096) {B:List Int} (hB:isB B) (hbl:B.length≤10000) {P most:Nat} {bl:Int} (hm2:most≤5000) {out:List Int} (hc:chkF (toksS b) out.length=some (out.length+b.length)) (hx:exF (toksS b) out=out++b) (ho:out.length≤most) (hs:Sp (dynP (toksS b)) P B) (hP:P+wid (dynP (toksS b))≤8 * B.length) :
  (out.length+b.length≤most→grow_stream_block (T_grow_stream.mk B (P:Int) out (most:Int) bl)=some (true,0,T_grow_stream.mk B ((P+wid (dynP (toksS b)):Nat):Int) (out++b) (most:Int) bl)) ∧
  (most<out.length+b.length→∃ s,grow_stream_block (T_grow_stream.mk B (P:Int) out (most:Int) bl)=some (true,2,s)):=by
 have hll:(toksS b).length≤5000:=tl_5000 hl
 obtain ⟨_,a2,a3,a4,_⟩:=dyL_cd hll
 obtain ⟨_,b2,b3,b4,_⟩:=dyD_cd hll
 obtain ⟨t1,t2⟩:=tmN_len (l:=dyL (toksS b)) (least:=257) (by omega)
 obtain ⟨t3,t4⟩:=tmN_len (l:=dyD (toksS b)) (least:=1) (by omega)
 unfold dynP at hs hP ⊢
 rw [← tm_tksP (dyL (toksS b)) (dyD (toksS b)) 257 1,← tm_syP (dyL (toksS b)) 257 256] at hs hP ⊢
 have h256:(tmN (dyL (toksS b)) 257).getD 256 0≠0:=by
  rw [tm_get]
  have:=(a4 256 (by omega)).2 (used_end (toksS b))
  omega
 have hus:=dyn_used hll (toksS_ok hb)
 have cm:=tm_Cd 257 a2
 have cd':=tm_Cd 1 b2
 generalize tmN (dyL (toksS b)) 257=ml at *
 generalize tmN (dyD (toksS b)) 1=md at *
 obtain ⟨h1,h23⟩:=(Sp_app _ _ _ _).1 hs
 obtain ⟨h2,h3⟩:=(Sp_app _ _ _ _).1 h23
 have hwid:wid [(1,1),(2,2)]=3:=rfl
 rw [hwid] at h2 h3
 rw [wid_app,wid_app,hwid] at hP ⊢
 have hok:∀ t∈toksS b,okTk t∧usedC ml md t:=fun t ht=>⟨toksS_ok hb t ht,hus t ht⟩
 refine ⟨fun hr => ?_,fun hr => ?_⟩
 ·have ht:=gtext_ok cm cd' hB hbl h256 (bl:=bl) hm2 hr (l:=toksS b) (P:=P+3+wid (hdP ml md)) hll hok hc (by omega) h3
  rw [hx,show P+3+wid (hdP ml md)+wid (tksP ml md (toksS b)++[syP ml 256])=P+(3+(wid (hdP ml md)+wid (tksP ml md (toksS b)++[syP ml 256]))) by omega] at ht
  exact gblk2 hB hbl (f:=1) (by omega) (by omega) h1 (gdyn cm cd' t1 (by omega) t3 (by omega) h256 hB hbl (by omega) h2 ht)
 ·obtain ⟨s,ht⟩:=gtext_no cm cd' hB hbl (bl:=bl) hm2 hr (l:=toksS b) (P:=P+3+wid (hdP ml md)) hll hok hc ho (by omega) h3
  exact ⟨_,gblk2 hB hbl (f:=1) (by omega) (by omega) h1 (gdyn cm cd' t1 (by omega) t3 (by omega) h256 hB hbl (by omega) h2 ht)⟩
theorem gshr {b:List Int} (hb:∀ n∈b,0≤n∧n<256) (hl:b.length≤4096) {ps:List (Nat×Nat)} (hps:ps=stQ b∨ps=fxP (toksS b)∨ps=dynP (toksS b)) {B:List Int} (hB:isB B) (hbl:B.length≤10000) {P most:Nat} (h0:P % 8=0) {bl:Int} (hm2:most≤5000) {out:List Int} (hc:chkF (toksS b) out.length=some (out.length+b.length)) (hx:exF (toksS b) out=out++b) (ho:out.length≤most) (hs:Sp ps P B) (hP:P+wid ps≤8 * B.length) :
  (out.length+b.length≤most→grow_stream_block (T_grow_stream.mk B (P:Int) out (most:Int) bl)=some (true,0,T_grow_stream.mk B ((P+wid ps:Nat):Int) (out++b) (most:Int) bl)) ∧
  (most<out.length+b.length→∃ s,grow_stream_block (T_grow_stream.mk B (P:Int) out (most:Int) bl)=some (true,2,s)):=by
 rcases hps with rfl | rfl | rfl
 ·have e:stQ b=[(1,1),(0,2)]++([(0,5),(b.length,16),(65535-b.length,16)]++stP b):=by simp [stQ]
  rw [wid_stQ,← Nat.add_assoc] at hP ⊢
  rw [e] at hs
  exact gstor hb hl hB hbl (f:=1) (by omega) h0 hm2 ho hs hP
 ·exact gfixed hb hl hB hbl hm2 hc hx ho hs hP
 ·exact gdynb hb hl hB hbl hm2 hc hx ho hs hP
/-! The whole stream. -/
theorem gend {B:List Int} (hB:isB B) (hbl:B.length≤10000) {P:Nat} (h1:P≤8 * B.length) (h2:8 * B.length<P+8) (hz:∀ q,P≤q→bitC B q=false) {out:List Int} {most bl:Int} :
  grow_stream_end (T_grow_stream.mk B (P:Int) out most bl)=some (0,T_grow_stream.mk B ((8 * B.length:Nat):Int) out most bl):=by
 have w8:IntKind.i64.wrap (8 * ((B.length:Nat):Int))=((8 * B.length:Nat):Int):=by rw [wrap_i64 (by omega) (by omega)]; omega
 have wB:IntKind.i64.wrap (((8 * B.length:Nat):Int)-(P:Int))=((8 * B.length-P:Nat):Int):=wrS' (by omega) (by omega)
 have hp:=gpad hB hbl (P:=P) (Q:=8 * B.length) (out:=out) (most:=most) (bl:=bl) (by omega) h1 (by omega) (Nat.le_refl _) (fun q hq _=>hz q hq)
 unfold grow_stream_end
 exact bnd (congrArg some w8) (bnd (congrArg some wB) (cnd_f (decide_eq_false (by omega)) (bnd hp rfl)))
theorem gd_last {B out o2:List Int} {P P2 most:Int} {k:Nat} (hk:k≤10000) (h:grow_stream_block (T_grow_stream.mk B P out most (k:Int))=some (true,0,T_grow_stream.mk B P2 o2 most (k:Int))) (fuel:Nat) :
  loopF gdS (fuel+2) (B,P,out,most,(k:Int),false)=some (.inl (B,P2,o2,most,((k+1:Nat):Int))) :=
 (loop_next (s':=(B,P2,o2,most,((k+1:Nat):Int),true)) (by unfold gdS; exact cnd_t rfl (bnd h (cnd_f rfl (bnd (congrArg some (wrap_succ (n:=k) (by omega))) rfl))))).trans (loop_exit (by unfold gdS; exact cnd_f rfl rfl))
theorem gread_fin {B out:List Int} {P:Int} {most k e:Int} {s:T_grow_stream} (hm:0≤most) (hm2:most≤4096) (hbl:B.length≤5000) (h:loopF gdS BIG (B,0,[],most,0,false)=some (.inl (B,P,out,most,k))) (he:grow_stream_end (T_grow_stream.mk B P out most k)=some (e,s)):grow_read_sh B most=some (some s,e):=by
 unfold grow_read_sh
 exact bndL (s:=false) (cnd_f (decide_eq_false (by omega)) (by rw [decide_eq_false (show ¬ (4096:Int)<most by omega)])) (cnd_f rfl (cnd_f (decide_eq_false (by omega)) (bndL h (bnd he rfl))))
theorem gread_bad {B:List Int} {most e:Int} (hm:0≤most) (hm2:most≤4096) (hbl:B.length≤5000) (h:loopF gdS BIG (B,0,[],most,0,false)=some (.inr (none,e))):grow_read_sh B most=some (none,e):=by
 unfold grow_read_sh
 exact bndL (s:=false) (cnd_f (decide_eq_false (by omega)) (by rw [decide_eq_false (show ¬ (4096:Int)<most by omega)])) (cnd_f rfl (cnd_f (decide_eq_false (by omega)) (bndR h rfl)))
theorem gd_bad {B out:List Int} {P most bl e:Int} {l:Bool} {s:T_grow_stream} (he:(e != 0)=true) (h:grow_stream_block (T_grow_stream.mk B P out most bl)=some (l,e,s)) (fuel:Nat):loopF gdS (fuel+1) (B,P,out,most,bl,false)=some (.inr (none,e)) :=
 loop_exit (by unfold gdS; exact cnd_t rfl (bnd h (cnd_t he rfl)))
theorem ggrow_ok {B:List Int} {most:Int} {s:T_grow_stream} (h:grow_read_sh B most=some (some s,0)):grow_Grow B most=some (s.out,0):=by
 unfold grow_Grow
 exact bnd h (obs1 (cnd_f rfl rfl))
theorem gblocks_ok {B:List Int} {s:T_grow_stream} (h:grow_read_sh B 4096=some (some s,0)):grow_Blocks B=some (s.blocks,0):=by
 unfold grow_Blocks
 exact bnd h (obs1 (cnd_f rfl rfl))
theorem gone {b:List Int} (hb:∀ n∈b,0≤n∧n<256) (hl:b.length≤4096) {w:T_shrink_writer} {ps:List (Nat×Nat)} (hw:WP w ps) (hps:ps=stQ b∨ps=fxP (toksS b)∨ps=dynP (toksS b)) (hbl:w.b.length≤5000) {most:Nat} (hm2:most≤4096) :
  (b.length≤most→grow_read_sh w.b (most:Int)=some (some (T_grow_stream.mk w.b ((8 * w.b.length:Nat):Int) b (most:Int) 1),0))∧(most<b.length→grow_read_sh w.b (most:Int)=some (none,2)):=by
 have hg:=hw.good
 have hlen:=hg.len
 obtain ⟨k1,k2⟩:=gshr hb hl hps hg.bytes (by omega) (P:=0) (by omega) (bl:=((0:Nat):Int)) (most:=most) (by omega) (out:=[]) (by rw [List.length_nil,Nat.zero_add]; exact chk_toksS b) (by rw [List.nil_append]; exact ex_toksS b) (by simp) hw.sp (by omega)
 rw [List.length_nil,Nat.zero_add,Nat.zero_add,List.nil_append] at k1
 rw [List.length_nil,Nat.zero_add] at k2
 have eB:BIG=(BIG-2)+2:=by simp only [BIG]
 refine ⟨fun hr => ?_,fun hr => ?_⟩
 ·have hl1:=gd_last (by omega) (k1 hr) (BIG-2)
  rw [← eB] at hl1
  exact gread_fin (by omega) (by omega) hbl hl1 (gend hg.bytes (by omega) (by omega) (by omega) hg.zero)
 ·obtain ⟨s,h⟩:=k2 hr
  have hl1:=gd_bad (e:=2) rfl h (BIG-2+1)
  rw [← eB] at hl1
  exact gread_bad (by omega) (by omega) hbl hl1
end Go.Abs.Sh
