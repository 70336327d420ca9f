import Derived.Test.YtglabbpbianmnaaGreatDoorBunW
import Derived.KernelRfl
namespace Go.Abs.Sh
set_option linter.unusedVariables false
set_option linter.unusedSimpArgs false
set_option maxRecDepth 100000
theorem xor_i64e (a b:Nat) (ha:a<9223372036854775808) (hb:b<9223372036854775808):bits .xor .i64 (a:Int) (b:Int)=((a ^^^ b:Nat):Int):=by
 have hx:a ^^^ b<2 ^ 63:=Nat.xor_lt_two_pow (by omega) (by omega)
 show IntKind.i64.wrap ((BitVec.ofInt 64 (a:Int) ^^^ BitVec.ofInt 64 (b:Int)).toNat:Int)=_
 rw [BitVec.toNat_xor,ofInt64 a ha,ofInt64 b hb,wrap_i64 (by omega) (by omega)]
def dvL:Nat:=3988292384
theorem ry_bits (b:List Int) (j:Nat) (hj:j<b.length) (x r:Nat) (hx:b[j]=(x:Int)) (hx256:x<256):∀ (k fuel t q:Nat),8-t=k→t≤8→k<fuel→q<4294967296→q ^^^ x / 2 ^ t=sn dvL t (r ^^^ x) →
  loopF (rzS b (dvL:Int) (j:Int)) fuel ((q:Int),(t:Int))=some (.inl ((sn dvL 8 (r ^^^ x):Nat):Int)):=by
 intro k
 induction k with
 | zero =>
  intro fuel t q hk ht hf hq he
  obtain ⟨f,rfl⟩:∃ f,fuel=f+1:=⟨fuel-1,by omega⟩
  have:t=8:=by omega
  subst this
  refine loop_exit ?_
  unfold rzS
  refine cnd_f (by simp) ?_
  rw [Nat.div_eq_of_lt (show x<2 ^ 8 by omega),Nat.xor_zero] at he
  rw [he]
 | succ k ih =>
  intro fuel t q hk ht hf hq he
  obtain ⟨f,rfl⟩:∃ f,fuel=f+1:=⟨fuel-1,by omega⟩
  have w1:IntKind.i64.wrap ((t:Int)+1)=((t+1:Nat):Int):=by rw [wrap_i64 (by omega) (by omega)]; simp
  have wu:IntKind.u64.wrap (t:Int)=(t:Int):=wrap_u64s (by omega) (by omega)
  have hsr:=shr_nat .i64 q 1 (by decide)
  rw [Nat.pow_one,show ((1:Nat):Int)=1 from rfl] at hsr
  have hsx:=shr_nat .u8 x t (by simp only [IntKind.bits]; omega)
  have hdv:x / 2 ^ t<256:=Nat.lt_of_le_of_lt (Nat.div_le_self _ _) hx256
  have hnext:sn dvL (t+1) (r ^^^ x)=s0 dvL (q ^^^ x / 2 ^ t):=by
   rw [he,sn_add]; rfl
  have hX2:x / 2 ^ (t+1)=x / 2 ^ t / 2:=by rw [Nat.pow_succ,Nat.div_div_eq_div_mul]
  generalize x / 2 ^ t=X at *
  have wX:IntKind.i64.wrap (X:Int)=(X:Int):=wrap_i64 (by omega) (by omega)
  have hqx:q / 2<4294967296:=by omega
  have hx2:(q / 2 ^^^ dvL)<2 ^ 32:=Nat.xor_lt_two_pow (by omega) (by unfold dvL; omega)
  have e32:(2:Nat) ^ 32=4294967296:=by decide
  have hs0:s0 dvL (q ^^^ X)=(q / 2 ^^^ (if q % 2≠X % 2 then dvL else 0)) ^^^ X / 2:=by
   unfold s0
   rw [Nat.xor_div_two,xor_mod2]
   have h1:q % 2=0∨q % 2=1:=by omega
   have h2:X % 2=0∨X % 2=1:=by omega
   rcases h1 with h1 | h1 <;> rcases h2 with h2 | h2 <;> rw [h1,h2] <;> simp <;> rw [Nat.xor_assoc,Nat.xor_comm (X / 2),← Nat.xor_assoc]
  by_cases hne:q % 2=X % 2
  ·have e:¬ q % 2≠X % 2:=fun h=>h hne
   rw [if_neg e,Nat.xor_zero] at hs0
   refine (loop_next ?_).trans (ih f (t+1) (q / 2) (by omega) (by omega) (by omega) hqx (by rw [hX2,hnext,hs0]))
   unfold rzS
   refine cnd_t (by simp; omega) (bndL (s:=((q / 2:Nat):Int)) (bnd (x:=((q % 2:Nat):Int)) (by rw [and1_i64 _ (by omega)]) (bnd hsr (bnd (ixO_of hj) (bnd (x:=(x:Int)) (by rw [getO_of hj,hx]) (bnd (x:=(t:Int)) (by rw [wu]) (bnd hsx (bnd (x:=(X:Int)) (by rw [wX]) (bnd (x:=((X % 2:Nat):Int)) (by rw [and1_i64 _ (by omega)]) (cnd_f ?_ rfl))))))))) (bnd (x:=((t+1:Nat):Int)) (by rw [w1]) rfl))
   rw [hne]; simp
  ·rw [if_pos hne] at hs0
   refine (loop_next ?_).trans (ih f (t+1) (q / 2 ^^^ dvL) (by omega) (by omega) (by omega) (by omega) (by rw [hX2,hnext,hs0]))
   unfold rzS
   have hxo:=xor_i64e (q / 2) dvL (by omega) (by unfold dvL; omega)
   refine cnd_t (by simp; omega) (bndL (s:=((q / 2 ^^^ dvL:Nat):Int)) (bnd (x:=((q % 2:Nat):Int)) (by rw [and1_i64 _ (by omega)]) (bnd hsr (bnd (ixO_of hj) (bnd (x:=(x:Int)) (by rw [getO_of hj,hx]) (bnd (x:=(t:Int)) (by rw [wu]) (bnd hsx (bnd (x:=(X:Int)) (by rw [wX]) (bnd (x:=((X % 2:Nat):Int)) (by rw [and1_i64 _ (by omega)]) (cnd_t ?_ (bnd (x:=((q / 2 ^^^ dvL:Nat):Int)) (by rw [hxo]) rfl)))))))))) (bnd (x:=((t+1:Nat):Int)) (by rw [w1]) rfl))
   simp only [bne_iff_ne,ne_eq]; omega
theorem ry_loop (b:List Int) (hb:byt b) (hl:b.length<100000000):∀ (k fuel i r:Nat),b.length-i=k→i≤b.length→k<fuel→r<4294967296 →
  loopF (ryS b (dvL:Int)) fuel ((r:Int),(i:Int))=some (.inl ((reg dvL (nats (b.drop i)) r:Nat):Int)):=by
 intro k
 induction k with
 | zero =>
  intro fuel i r hk hi hf hr
  obtain ⟨f,rfl⟩:∃ f,fuel=f+1:=⟨fuel-1,by omega⟩
  have:i=b.length:=by omega
  subst this
  refine loop_exit ?_
  unfold ryS
  refine cnd_f (by simp) ?_
  rw [List.drop_length,show nats []=[] from rfl,reg_nil]
 | succ k ih =>
  intro fuel i r hk hi hf hr
  obtain ⟨f,rfl⟩:∃ f,fuel=f+1:=⟨fuel-1,by omega⟩
  have hlt:i<b.length:=by omega
  have hbi:=hb b[i] (List.getElem_mem hlt)
  obtain ⟨x,hx⟩:∃ x:Nat,b[i]=(x:Int):=⟨b[i].toNat,by omega⟩
  have hx256:x<256:=by omega
  have w1:IntKind.i64.wrap ((i:Int)+1)=((i+1:Nat):Int):=by rw [wrap_i64 (by omega) (by omega)]; simp
  have hdr:b.drop i=b[i]::b.drop (i+1):=List.drop_eq_getElem_cons hlt
  have hin:=ry_bits b i hlt x r hx hx256 8 BIG 0 r rfl (by omega) (by unfold BIG; omega) hr (by rw [Nat.pow_zero,Nat.div_one]; rfl)
  have hlt2:sn dvL 8 (r ^^^ x)<4294967296:=sn_lt dvL _ 32 8 (by decide) (Nat.xor_lt_two_pow (by omega) (by omega))
  have hre:reg dvL (nats (b.drop i)) r=reg dvL (nats (b.drop (i+1))) (sn dvL 8 (r ^^^ x)):=by
   rw [hdr,show nats (b[i]::b.drop (i+1))=b[i].toNat::nats (b.drop (i+1)) from rfl,hx,Int.toNat_natCast,reg_cons _ _ _ _ hx256]
  rw [hre]
  refine (loop_next ?_).trans (ih f (i+1) (sn dvL 8 (r ^^^ x)) (by omega) (by omega) (by omega) hlt2)
  unfold ryS
  exact cnd_t (by simp; omega) (bndL hin (bnd (x:=((i+1:Nat):Int)) (by rw [w1]) rfl))
theorem rlong_eq {b:List Int} (hb:byt b) (hl:b.length<100000000):wherryref08_Long b=some ((sumL b:Nat):Int):=by
 have hk:=ry_loop b hb hl b.length BIG 0 4294967295 (by omega) (Nat.zero_le _) (by unfold BIG; omega) (by omega)
 rw [List.drop_zero] at hk
 have hlt:reg dvL (nats b) 4294967295<2 ^ 32:=reg_lt dvL 32 (by decide) (by decide) _ _ (by decide) (nats_bytes hb)
 have hxo:=xor_i64e (reg dvL (nats b) 4294967295) 4294967295 (by omega) (by omega)
 unfold wherryref08_Long
 refine bnd (x:=((sumL b:Nat):Int)) ?_ rfl
 unfold wherryref08_Carry
 refine bnd (x:=32) (by decide) (bnd (x:=4294967296) (by decide) (bnd (x:=4294967295) (by decide) (bndL hk (bnd (x:=32) (by decide) (bnd (x:=4294967296) (by decide) (bnd (x:=4294967295) (by decide) (bnd (x:=((sumL b:Nat):Int)) ?_ rfl)))))))
 exact congrArg some hxo
/-! Texts put together. -/
structure TX (s:ByteArray) (l:List Int) (n:Nat):Prop where
 e:sbytes s=l
 le:l.length≤n
theorem catT {s t:ByteArray} {l m:List Int} {n k:Nat} (hs:TX s l n) (ht:TX t m k) (h:n+k≤5000):∃ v,catO s t=some v∧TX v (l++m) (n+k):=by
 have h1:=hs.le
 have h2:=ht.le
 refine ⟨_,catL hs.e ht.e (by omega),⟨?_,by rw [List.length_append]; omega⟩⟩
 exact sbytes_bstr (byt_app (by rw [← hs.e]; exact byt_sbytes s) (by rw [← ht.e]; exact byt_sbytes t))
theorem digT {n:Nat} (h:n<10 ^ 18):∃ v,wherryref11_Digits (n:Int)=some v∧TX v (dgA 20 n []) 21:=by
 obtain ⟨a,b⟩:=dg_byt h
 exact ⟨_,rdig_eq 20 n (by omega) (by omega) (by omega),⟨sbytes_bstr a,b⟩⟩
theorem tW:TX (⟨#[66,85,78,68,76,69,32]⟩:ByteArray) (bunW++[32]) 7:=⟨rfl,by decide⟩
theorem tw:TX (⟨#[98,117,110,100,108,101,32]⟩:ByteArray) [98,117,110,100,108,101,32] 7:=⟨rfl,by decide⟩
theorem t1:TX (⟨#[32]⟩:ByteArray) [32] 1:=⟨rfl,by decide⟩
theorem t20:TX (⟨#[32,48]⟩:ByteArray) [32,48] 2:=⟨rfl,by decide⟩
theorem t2:TX (⟨#[32,32]⟩:ByteArray) [32,32] 2:=⟨rfl,by decide⟩
theorem t65:TX (⟨#[32,54,53,53,51,54,32]⟩:ByteArray) [32,54,53,53,51,54,32] 7:=⟨rfl,by decide⟩
theorem tE:TX (⟨#[13,10]⟩:ByteArray) [13,10] 2:=⟨rfl,by decide⟩
theorem rbytes_any {b:T_Bundle} (hm:∀ m∈b.Mails,LM m∧byt m.Body) (hl:b.Mails.length≤20) :
  (∃ e,wherryref11_BundleBytes b=some ([],e)∧e≠0)∨(wherryref11_BundleBytes b=some (wholeL b,0)∧bundle_Check b=some 0∧(b.Origin=0∨b.Origin=1)∧1≤b.Number∧b.Number≤65535∧1≤b.Mails.length∧b.Mails.length≤4∧(∀ m∈b.Mails,Vm m)∧(wholeL b).length≤4096∧bundle_Bytes b=some (wholeL b,0)):=by
 obtain ⟨c,hc,hc2⟩:=rbun_any hm hl
 cases c
 ·exact .inl ⟨5,by unfold wherryref11_BundleBytes; exact bnd hc (cnd_t rfl rfl),by decide⟩
 have hck:=chk_exact hm hl
 rw [hc2 rfl] at hck
 obtain ⟨e,he,h5,h0⟩:=chk_eq hm hl
 rw [show bundle_Check b=some 0 from hck] at he
 obtain ⟨ho,hn1,hn2,hl1,hl4,hv⟩:=h0 (Option.some.inj he).symm
 have hcb:=comL_byt hv
 have hlen:=cmds_len hv
 have hlen2:b.Mails.length * 1000000≤4 * 1000000:=Nat.mul_le_mul_right _ hl4
 have hcl:(comL b.Mails).length≤4000006:=by simp only [comL,quitL,List.length_append,List.length_cons,List.length_nil]; omega
 have hns:[b.Origin,b.Number,(b.Mails.length:Int),((cmds b.Mails++[81,85,73,84,13,10]).length:Int),((sumL (comL b.Mails):Nat):Int)]=(numsL b).map (fun n:Nat=>(n:Int)):=by
  show _=[((b.Origin.toNat:Nat):Int),((b.Number.toNat:Nat):Int),((b.Mails.length:Nat):Int),(((comL b.Mails).length:Nat):Int),((sumL (comL b.Mails):Nat):Int)]
  rw [show ((b.Origin.toNat:Nat):Int)=b.Origin by omega,show ((b.Number.toNat:Nat):Int)=b.Number by omega]
  rfl
 have hsl:=sumL_lt hcb
 have hn:∀ n∈numsL b,n<10 ^ 18:=by
  intro n hn
  simp only [numsL,List.mem_cons,List.not_mem_nil,or_false] at hn
  rcases hn with rfl | rfl | rfl | rfl | rfl <;> omega
 have hby:=bytes_eq hck hv hl (sumL_eq hcb (by show (comL b.Mails).length<_; omega)) hns hn
 have ew:(bunW++nmsL (numsL b))++[13,10]++(cmds b.Mails++[81,85,73,84,13,10])=wholeL b:=by simp [wholeL,comL,quitL]
 rw [ew] at hby
 obtain ⟨v4,d4,x4⟩:=digT (n:=b.Origin.toNat) (by omega)
 obtain ⟨v7,d7,x7⟩:=digT (n:=b.Number.toNat) (by omega)
 obtain ⟨v10,d10,x10⟩:=digT (n:=b.Mails.length) (by omega)
 obtain ⟨v13,d13,x13⟩:=digT (n:=(comL b.Mails).length) (by omega)
 obtain ⟨v17,d17,x17⟩:=digT (n:=sumL (comL b.Mails)) (by omega)
 rw [show ((b.Origin.toNat:Nat):Int)=b.Origin by omega] at d4
 rw [show ((b.Number.toNat:Nat):Int)=b.Number by omega] at d7
 obtain ⟨v5,c5,x5⟩:=catT tW x4 (by omega)
 obtain ⟨v6,c6,x6⟩:=catT x5 t1 (by omega)
 obtain ⟨v8,c8,x8⟩:=catT x6 x7 (by omega)
 obtain ⟨v9,c9,x9⟩:=catT x8 t1 (by omega)
 obtain ⟨v11,c11,x11⟩:=catT x9 x10 (by omega)
 obtain ⟨v12,c12,x12⟩:=catT x11 t1 (by omega)
 obtain ⟨v14,c14,x14⟩:=catT x12 x13 (by omega)
 obtain ⟨v15,c15,x15⟩:=catT x14 t1 (by omega)
 obtain ⟨v18,c18,x18⟩:=catT x15 x17 (by omega)
 obtain ⟨v19,c19,x19⟩:=catT x18 tE (by omega)
 have hap:appO 1 (sbytes v19) (comL b.Mails)=some (wholeL b):=by
  have h1:=x19.le
  rw [x19.e,app_of (by omega) (by omega)]
  simp [wholeL,numsL,nmsL]
 have key:∀ r,(cond (decide (4096<((wholeL b).length:Int))) (some ([],2)) (some (wholeL b,0)):Option (List Int×Int))=some r→wherryref11_BundleBytes b=some r:=fun r hr=>by
  unfold wherryref11_BundleBytes
  exact bnd hc (cnd_f rfl (bnd (rcom_eq hv hl) (bnd d4 (bnd c5 (bnd c6 (bnd d7 (bnd c8 (bnd c9 (bnd d10 (bnd c11 (bnd c12 (bnd d13 (bnd c14 (bnd c15 (bnd (rlong_eq hcb (by omega)) (bnd d17 (bnd c18 (bnd c19 (bnd rfl (bnd hap hr))))))))))))))))))))
 by_cases h:4096<(wholeL b).length
 ·exact .inl ⟨2,key _ (cnd_t (decide_eq_true (by omega)) rfl),by decide⟩
 ·rw [if_neg h] at hby
  exact .inr ⟨key _ (cnd_f (decide_eq_false (by omega)) rfl),hck,ho,hn1,hn2,hl1,hl4,hv,by omega,hby⟩
/-! Heads that are none. -/
theorem read5 {line c:List Int} {h:T_bundle_header} {ok:Bool} (hb:byt line) (hc:byt c) (h13:∀ x∈line,x≠13) (hl:line.length≤4900) (hcl:c.length≤4900) (hh:hdrOf line=(h,ok)) (hno:ok=false∨h.size≠(c.length:Int) ∨
  (h.size=(c.length:Int)∧h.sum=((sumL c:Nat):Int)∧∃ l y e,bundle_parseMails_ro c=some l∧bundle_Bytes (T_Bundle.mk h.origin h.number l)=some (y,e)∧(e≠0∨bytes_Equal y (line++13::10::c)=some false))) :
  bundle_Read_ro (line++13::10::c)=some (T_Bundle.mk 0 0 [],5):=by
 have hcut:=cut_line hb hc h13 (by omega)
 have hph:=parseHeader_eq hb (by omega)
 rw [hh] at hph
 unfold bundle_Read_ro
 cases ok
 ·exact bnd hcut (bnd rfl (bnd hph (bndL (s:=true) (cnd_f rfl (cnd_t rfl rfl)) (cnd_t rfl rfl))))
 rcases hno with hno | hno | ⟨h1,h2,l,y,e,h3,h4,h5⟩
 ·cases hno
 ·exact bnd hcut (bnd rfl (bnd hph (bndL (s:=true) (cnd_f rfl (cnd_f rfl (inl_of (bne_iff_ne.2 (fun e=>hno e.symm))))) (cnd_t rfl rfl))))
 ·have s1:((c.length:Int) != h.size)=false:=by rw [h1]; exact bne_self_eq_false _
  have s2:(((sumL c:Nat):Int) != h.sum)=false:=by rw [h2]; exact bne_self_eq_false _
  refine bnd hcut (bnd rfl (bnd hph (bndL (s:=false) (cnd_f rfl (cnd_f rfl (inl_of s1))) (cnd_f rfl (bnd (sumL_eq (l:=c) hc (by omega)) (cnd_f s2 (bnd h3 (bnd h4 (bndL (s:=true) ?_ (cnd_t rfl rfl))))))))))
  by_cases he:e=0
  ·rcases h5 with h5 | h5
   ·exact absurd he h5
   ·exact cnd_f (by show (e != 0)=false; rw [he]; rfl) (bnd h5 rfl)
  ·exact cnd_t (bne_iff_ne.2 he) rfl
theorem nms_inj {a b:List Nat} (ha:∀ n∈a,n<10 ^ 10) (hb:∀ n∈b,n<10 ^ 10) (h:bunW++nmsL a=bunW++nmsL b):a=b:=by
 have h1:=congrArg (spl 32) h
 rw [spl_nms _ _ (fun n hn=>by have:=ha n hn; omega) no32W,spl_nms _ _ (fun n hn=>by have:=hb n hn; omega) no32W] at h1
 have h2:=(List.cons.inj h1).2
 have back:∀ {l:List Nat},(∀ n∈l,n<10 ^ 10)→(l.map fun n=>dgA 20 n []).map vI=l.map fun n:Nat=>(n:Int):=fun {l} hl=>by
  rw [List.map_map]
  exact List.map_congr_left fun n hn=>(num_dg (hl n hn)).2
 have h3:=congrArg (List.map vI) h2
 rw [back ha,back hb] at h3
 exact (List.map_inj_right (fun x y h=>Int.ofNat.inj h)).1 h3
def hfS (x:List Int):((Int))→Option ((Int)⊕((Int)⊕Bool)):=(fun (s159:Int) =>
   (ixO s159 x.length).bind fun v5 =>
   (getO x v5).bind fun v6 =>
   cond ((v6 != 13))
    ((some (IntKind.i64.wrap (s159+1))).bind fun v8 =>
    some (.inl v8))
    (some (.inr (.inl s159))))
theorem hdrW_w {w a b c d e:List Int} (h:w≠bunW):hdrW [w,a,b,c,d,e]=(zH,false):=by
 simp only [hdrW,if_neg h]
theorem hf_loop {p r:List Int} (hp:∀ x∈p,x≠13) (hl:p.length≤5000):loopF (hfS (p++13::10::r)) BIG 0=some (.inl (p.length:Int)):=by
 have hlen:(p++13::10::r).length=p.length+(r.length+2):=by simp
 refine loop_from (fun i=>((i:Nat):Int)) p.length BIG rfl (by simp only [BIG]; omega) (fun i hi => ?_) ?_
 ·have hg:getO (p++13::10::r) i=some p[i]:=by
   unfold getO
   rw [List.getElem?_append_left hi,List.getElem?_eq_getElem hi]
  exact bnd (ixO_of (by omega)) (bnd hg (cnd_t (bne_iff_ne.2 (hp _ (List.getElem_mem hi))) (bnd (congrArg some (wrap_succ (n:=i) (by omega))) rfl)))
 ·have hg:getO (p++13::10::r) p.length=some 13:=by
   unfold getO
   rw [List.getElem?_append_right (Nat.le_refl _)]; simp
  exact bnd (ixO_of (by omega)) (bnd hg (cnd_f rfl rfl))
theorem bundleForms_true (b:T_Bundle) (how:Int) (hb:T_Bundle.wz b):wherrylaw17_BundleForms b how=some true:=by
 have hmr:∀ m∈b.Mails,mRe m∧byt m.Body:=fun m hm=>wz_mail (hb.2.2.2 m hm)
 obtain ⟨hv,hh,hlm⟩:=heavy17 b.Mails fun m hm=>(hmr m hm).1
 unfold wherrylaw17_BundleForms
 cases hv
 case true=>exact bnd hh (cnd_t rfl rfl)
 obtain ⟨hl20,hlm⟩:=hlm rfl
 have hmf:∀ m∈b.Mails,LM m∧byt m.Body:=fun m hm=>⟨hlm m hm,(hmr m hm).2⟩
 refine bnd hh (cnd_f rfl ?_)
 rcases rbytes_any hmf hl20 with ⟨e,he,h52⟩ | ⟨hrb,hck,ho,hn1,hn2,hl1,hl4,hvm,hw,hby⟩
 ·exact bnd he (cnd_t (bne_iff_ne.2 (by show e≠0; omega)) rfl)
 obtain ⟨f1,f2,f3,f4,f5,f6,f7⟩:=whole_facts ho hn1 hn2 hl4 hvm hw
 refine bnd hrb (cnd_f rfl ?_)
 have hrw:=read_whole hmf hck ho hn1 hn2 hl4 hvm hw hby
 have hc6:(comL b.Mails).length=(cmds b.Mails).length+6:=by simp [comL,quitL]
 have hps:=ps_yes (chk_pm hmf (by omega) hck) (fun m hm=>cmd_byt (hvm m hm)) hl4 (by omega)
 clear hc6
 have hkb:=keepB_refl b (by omega) fun m hm=>lm_len (hlm m hm)
 have hsl:=sumL_lt f2
 have hnums:numsL b=[b.Origin.toNat,b.Number.toNat,b.Mails.length,(comL b.Mails).length,sumL (comL b.Mails)]:=rfl
 generalize hL:bunW++nmsL (numsL b)=L at f1 f3 f4 f7
 have hwL:wholeL b=L++13::10::comL b.Mails:=by unfold wholeL; rw [hL]
 rw [hwL] at hw hby hrw ⊢
 generalize comL b.Mails=c at f2 f5 f6 f7 hw hby hrw hps hsl hnums ⊢
 have eo:((b.Origin.toNat:Nat):Int)=b.Origin:=by omega
 have en:((b.Number.toNat:Nat):Int)=b.Number:=by omega
 have hlen:(L++13::10::c).length=L.length+2+c.length:=by simp; omega
 have w21:IntKind.i64.wrap ((L.length:Int)+2)=((L.length+2:Nat):Int):=by rw [wrap_i64 (by omega) (by omega)]; simp
 have w51:IntKind.i64.wrap (b.Origin+2)=((b.Origin.toNat+2:Nat):Int):=by rw [wrap_i64 (by omega) (by omega)]; omega
 have w71:IntKind.i64.wrap ((b.Mails.length:Int)+1)=((b.Mails.length+1:Nat):Int):=by rw [wrap_i64 (by omega) (by omega)]; omega
 have w88:IntKind.i64.wrap ((c.length:Int)+1)=((c.length+1:Nat):Int):=by rw [wrap_i64 (by omega) (by omega)]; omega
 have hsli:sliO (L++13::10::c) ((L.length+2:Nat):Int) (((L++13::10::c).length:Nat):Int)=some c:=by
  rw [sli_nat _ (by omega) (Nat.le_refl _)]
  have e:(L++13::10::c).drop (L.length+2)=c:=by
   rw [show L++13::10::c=(L++[13,10])++c by simp,show L.length+2=(L++[13,10]).length by simp,List.drop_left]
  rw [e,List.take_of_length_le (by omega)]
 obtain ⟨v24,d24,x24⟩:=digT (n:=sumL c) (by omega)
 obtain ⟨v25,d25,x25⟩:=digT (n:=b.Origin.toNat) (by omega)
 rw [eo] at d25
 obtain ⟨v26,c26,x26⟩:=catT tW x25 (by omega)
 obtain ⟨v27,c27,x27⟩:=catT x26 t20 (by omega)
 obtain ⟨v28,d28,x28⟩:=digT (n:=b.Number.toNat) (by omega)
 rw [en] at d28
 obtain ⟨v29,c29,x29⟩:=catT x27 x28 (by omega)
 obtain ⟨v30,c30,x30⟩:=catT x29 t1 (by omega)
 obtain ⟨v31,d31,x31⟩:=digT (n:=b.Mails.length) (by omega)
 obtain ⟨v32,c32,x32⟩:=catT x30 x31 (by omega)
 obtain ⟨v33,c33,x33⟩:=catT x32 t1 (by omega)
 obtain ⟨v34,d34,x34⟩:=digT (n:=c.length) (by omega)
 obtain ⟨v35,c35,x35⟩:=catT x33 x34 (by omega)
 obtain ⟨v36,c36,x36⟩:=catT x35 t1 (by omega)
 obtain ⟨v37,c37,x37⟩:=catT x36 x24 (by omega)
 obtain ⟨v38,d38,x38⟩:=digT (n:=b.Origin.toNat) (by omega)
 rw [eo] at d38
 obtain ⟨v39,c39,x39⟩:=catT tw x38 (by omega)
 obtain ⟨v40,c40,x40⟩:=catT x39 t1 (by omega)
 obtain ⟨v41,d41,x41⟩:=digT (n:=b.Number.toNat) (by omega)
 rw [en] at d41
 obtain ⟨v42,c42,x42⟩:=catT x40 x41 (by omega)
 obtain ⟨v43,c43,x43⟩:=catT x42 t1 (by omega)
 obtain ⟨v44,d44,x44⟩:=digT (n:=b.Mails.length) (by omega)
 obtain ⟨v45,c45,x45⟩:=catT x43 x44 (by omega)
 obtain ⟨v46,c46,x46⟩:=catT x45 t1 (by omega)
 obtain ⟨v47,d47,x47⟩:=digT (n:=c.length) (by omega)
 obtain ⟨v48,c48,x48⟩:=catT x46 x47 (by omega)
 obtain ⟨v49,c49,x49⟩:=catT x48 t1 (by omega)
 obtain ⟨v50,c50,x50⟩:=catT x49 x24 (by omega)
 obtain ⟨v52,d52,x52⟩:=digT (n:=b.Origin.toNat+2) (by omega)
 obtain ⟨v53,c53,x53⟩:=catT tW x52 (by omega)
 obtain ⟨v54,c54,x54⟩:=catT x53 t1 (by omega)
 obtain ⟨v55,d55,x55⟩:=digT (n:=b.Number.toNat) (by omega)
 rw [en] at d55
 obtain ⟨v56,c56,x56⟩:=catT x54 x55 (by omega)
 obtain ⟨v57,c57,x57⟩:=catT x56 t1 (by omega)
 obtain ⟨v58,d58,x58⟩:=digT (n:=b.Mails.length) (by omega)
 obtain ⟨v59,c59,x59⟩:=catT x57 x58 (by omega)
 obtain ⟨v60,c60,x60⟩:=catT x59 t1 (by omega)
 obtain ⟨v61,d61,x61⟩:=digT (n:=c.length) (by omega)
 obtain ⟨v62,c62,x62⟩:=catT x60 x61 (by omega)
 obtain ⟨v63,c63,x63⟩:=catT x62 t1 (by omega)
 obtain ⟨v64,c64,x64⟩:=catT x63 x24 (by omega)
 obtain ⟨v65,d65,x65⟩:=digT (n:=b.Origin.toNat) (by omega)
 rw [eo] at d65
 obtain ⟨v66,c66,x66⟩:=catT tW x65 (by omega)
 obtain ⟨v67,c67,x67⟩:=catT x66 t1 (by omega)
 obtain ⟨v68,d68,x68⟩:=digT (n:=b.Number.toNat) (by omega)
 rw [en] at d68
 obtain ⟨v69,c69,x69⟩:=catT x67 x68 (by omega)
 obtain ⟨v70,c70,x70⟩:=catT x69 t1 (by omega)
 obtain ⟨v72,d72,x72⟩:=digT (n:=b.Mails.length+1) (by omega)
 obtain ⟨v73,c73,x73⟩:=catT x70 x72 (by omega)
 obtain ⟨v74,c74,x74⟩:=catT x73 t1 (by omega)
 obtain ⟨v75,d75,x75⟩:=digT (n:=c.length) (by omega)
 obtain ⟨v76,c76,x76⟩:=catT x74 x75 (by omega)
 obtain ⟨v77,c77,x77⟩:=catT x76 t1 (by omega)
 obtain ⟨v78,c78,x78⟩:=catT x77 x24 (by omega)
 obtain ⟨v79,d79,x79⟩:=digT (n:=b.Origin.toNat) (by omega)
 rw [eo] at d79
 obtain ⟨v80,c80,x80⟩:=catT tW x79 (by omega)
 obtain ⟨v81,c81,x81⟩:=catT x80 t1 (by omega)
 obtain ⟨v82,d82,x82⟩:=digT (n:=b.Number.toNat) (by omega)
 rw [en] at d82
 obtain ⟨v83,c83,x83⟩:=catT x81 x82 (by omega)
 obtain ⟨v84,c84,x84⟩:=catT x83 t1 (by omega)
 obtain ⟨v85,d85,x85⟩:=digT (n:=b.Mails.length) (by omega)
 obtain ⟨v86,c86,x86⟩:=catT x84 x85 (by omega)
 obtain ⟨v87,c87,x87⟩:=catT x86 t1 (by omega)
 obtain ⟨v89,d89,x89⟩:=digT (n:=c.length+1) (by omega)
 obtain ⟨v90,c90,x90⟩:=catT x87 x89 (by omega)
 obtain ⟨v91,c91,x91⟩:=catT x90 t1 (by omega)
 obtain ⟨v92,c92,x92⟩:=catT x91 x24 (by omega)
 obtain ⟨v93,d93,x93⟩:=digT (n:=b.Origin.toNat) (by omega)
 rw [eo] at d93
 obtain ⟨v94,c94,x94⟩:=catT tW x93 (by omega)
 obtain ⟨v95,c95,x95⟩:=catT x94 t1 (by omega)
 obtain ⟨v96,d96,x96⟩:=digT (n:=b.Number.toNat) (by omega)
 rw [en] at d96
 obtain ⟨v97,c97,x97⟩:=catT x95 x96 (by omega)
 obtain ⟨v98,c98,x98⟩:=catT x97 t1 (by omega)
 obtain ⟨v99,d99,x99⟩:=digT (n:=b.Mails.length) (by omega)
 obtain ⟨v100,c100,x100⟩:=catT x98 x99 (by omega)
 obtain ⟨v101,c101,x101⟩:=catT x100 t1 (by omega)
 obtain ⟨v102,d102,x102⟩:=digT (n:=c.length) (by omega)
 obtain ⟨v103,c103,x103⟩:=catT x101 x102 (by omega)
 obtain ⟨v104,c104,x104⟩:=catT x103 t2 (by omega)
 obtain ⟨v105,c105,x105⟩:=catT x104 x24 (by omega)
 obtain ⟨v106,d106,x106⟩:=digT (n:=b.Origin.toNat) (by omega)
 rw [eo] at d106
 obtain ⟨v107,c107,x107⟩:=catT tW x106 (by omega)
 obtain ⟨v108,c108,x108⟩:=catT x107 t65 (by omega)
 obtain ⟨v109,d109,x109⟩:=digT (n:=b.Mails.length) (by omega)
 obtain ⟨v110,c110,x110⟩:=catT x108 x109 (by omega)
 obtain ⟨v111,c111,x111⟩:=catT x110 t1 (by omega)
 obtain ⟨v112,d112,x112⟩:=digT (n:=c.length) (by omega)
 obtain ⟨v113,c113,x113⟩:=catT x111 x112 (by omega)
 obtain ⟨v114,c114,x114⟩:=catT x113 t1 (by omega)
 obtain ⟨v115,c115,x115⟩:=catT x114 x24 (by omega)
 have hn10:∀ {x y z u v:Nat},x<10 ^ 10→y<10 ^ 10→z<10 ^ 10→u<10 ^ 10→v<10 ^ 10→∀ n∈[x,y,z,u,v],n<10 ^ 10:=fun a1 a2 a3 a4 a5 n hn=>by
  simp only [List.mem_cons,List.not_mem_nil,or_false] at hn
  rcases hn with rfl | rfl | rfl | rfl | rfl <;> assumption
 have hn18:∀ {l:List Nat},(∀ n∈l,n<10 ^ 10)→∀ n∈l,n<10 ^ 18:=fun h n hn=>by have:=h n hn; omega
 have d0:∀ {n:Nat},n<10 ^ 10→byt (dgA 20 n [])∧∀ x∈dgA 20 n [],x≠13:=fun {n} h=>⟨(dg_byt (n:=n) (by omega)).1,fun x hx=>by
  have:=dgA_dig (n:=n) (by omega) x hx
  unfold dig1 at this
  omega⟩
 have o10:b.Origin.toNat<10 ^ 10:=by omega
 have n10:b.Number.toNat<10 ^ 10:=by omega
 have k10:b.Mails.length<10 ^ 10:=by omega
 have c10:c.length<10 ^ 10:=by omega
 have s10:sumL c<10 ^ 10:=by omega
 have fin:∀ {s:ByteArray} {l l':List Int} {n:Nat},TX s l n→n≤200→l=l'→byt l'→(∀ x∈l',x≠13)→∀ {h:T_bundle_header} {ok:Bool},hdrOf l'=(h,ok)→(ok=false∨h.size≠(c.length:Int) ∨
   (h.size=(c.length:Int)∧h.sum=((sumL c:Nat):Int)∧∃ l y e,bundle_parseMails_ro c=some l∧bundle_Bytes (T_Bundle.mk h.origin h.number l)=some (y,e)∧(e≠0∨bytes_Equal y (l'++13::10::c)=some false))) →
   ∃ w,catO s (⟨#[13,10]⟩:ByteArray)=some w∧∃ z,appO 1 (sbytes w) c=some z∧bundle_Read_ro z=some (T_Bundle.mk 0 0 [],5):=by
  intro s l l' n hx hn hll hb1 hb2 h ok hh hno
  obtain ⟨w,c1,xw⟩:=catT hx tE (by omega)
  have h1:=hx.le
  subst hll
  refine ⟨w,c1,l++13::10::c,?_,read5 hb1 f2 hb2 (by omega) (by omega) hh hno⟩
  rw [xw.e,app_of (by simp only [List.length_append,List.length_cons,List.length_nil]; omega) (by simp only [List.length_append,List.length_cons,List.length_nil]; omega)]
  simp
 have g5:numsL b=[b.Origin.toNat,b.Number.toNat,b.Mails.length,c.length,sumL c]:=hnums
 have w13:∀ x∈bunW,x≠(13:Int):=by decide
 have b0:byt (bunW++32::(dgA 20 b.Origin.toNat []++32::((48::dgA 20 b.Number.toNat [])++nmsL [b.Mails.length,c.length,sumL c])))∧∀ x∈bunW++32::(dgA 20 b.Origin.toNat []++32::((48::dgA 20 b.Number.toNat [])++nmsL [b.Mails.length,c.length,sumL c])),x≠13:=by
  have hl:∀ n∈[b.Mails.length,c.length,sumL c],n<10 ^ 18:=by
   intro n hn
   simp only [List.mem_cons,List.not_mem_nil,or_false] at hn
   omega
  refine ⟨byt_app bunW_byt (byt_cons (by omega) (byt_app (d0 o10).1 (byt_cons (by omega) (byt_app (byt_cons (by omega) (d0 n10).1) (nms_byt hl).1)))),fun x hx => ?_⟩
  simp only [List.mem_append,List.mem_cons] at hx
  rcases hx with hx | hx | hx | hx | (hx | hx) | hx
  ·exact w13 x hx
  ·omega
  ·exact (d0 o10).2 x hx
  ·omega
  ·omega
  ·exact (d0 n10).2 x hx
  ·exact dg13 hl x hx
 have z0:hdrOf (bunW++32::(dgA 20 b.Origin.toNat []++32::((48::dgA 20 b.Number.toNat [])++nmsL [b.Mails.length,c.length,sumL c])))=(zH,false):=by
  obtain ⟨x,t,ht,_⟩:=dgA_head 20 b.Number.toNat [] (by omega) (by omega)
  have hnt:numT (48::dgA 20 b.Number.toNat [])=false:=by
   unfold numT
   rw [ht]
   simp
  unfold hdrOf
  rw [spl_app no32W,spl_app (dig_no32 (by omega)),spl_nms _ _ (by
   intro n hn
   simp only [List.mem_cons,List.not_mem_nil,or_false] at hn
   omega) (by
   intro h
   rcases List.mem_cons.1 h with h | h
   ·omega
   ·exact dig_no32 (by omega) h)]
  show hdrW [bunW,dgA 20 b.Origin.toNat [],48::dgA 20 b.Number.toNat [],_,_,_]=_
  unfold hdrW
  simp [hnt]
 have z1:hdrOf ([98,117,110,100,108,101]++nmsL [b.Origin.toNat,b.Number.toNat,b.Mails.length,c.length,sumL c])=(zH,false):=by
  unfold hdrOf
  rw [spl_nms _ _ (hn18 (hn10 o10 n10 k10 c10 s10)) (by decide)]
  exact hdrW_w (by decide)
 have b1:byt ([98,117,110,100,108,101]++nmsL [b.Origin.toNat,b.Number.toNat,b.Mails.length,c.length,sumL c])∧∀ x∈[98,117,110,100,108,101]++nmsL [b.Origin.toNat,b.Number.toNat,b.Mails.length,c.length,sumL c],x≠13:=by
  refine ⟨byt_app (by intro x hx; simp only [List.mem_cons,List.not_mem_nil,or_false] at hx; omega) (nms_byt (hn18 (hn10 o10 n10 k10 c10 s10))).1,fun x hx => ?_⟩
  rcases List.mem_append.1 hx with hx | hx
  ·simp only [List.mem_cons,List.not_mem_nil,or_false] at hx; omega
  ·exact dg13 (hn18 (hn10 o10 n10 k10 c10 s10)) x hx
 have b5:byt (bunW++32::(dgA 20 b.Origin.toNat []++32::(dgA 20 b.Number.toNat []++32::(dgA 20 b.Mails.length []++32::(dgA 20 c.length []++32::([]++nmsL [sumL c]))))))∧∀ x∈bunW++32::(dgA 20 b.Origin.toNat []++32::(dgA 20 b.Number.toNat []++32::(dgA 20 b.Mails.length []++32::(dgA 20 c.length []++32::([]++nmsL [sumL c]))))),x≠13:=by
  have hl:∀ n∈[sumL c],n<10 ^ 18:=by
   intro n hn
   simp only [List.mem_cons,List.not_mem_nil,or_false] at hn
   omega
  refine ⟨byt_app bunW_byt (byt_cons (by omega) (byt_app (d0 o10).1 (byt_cons (by omega) (byt_app (d0 n10).1 (byt_cons (by omega) (byt_app (d0 k10).1 (byt_cons (by omega) (byt_app (d0 c10).1 (byt_cons (by omega) (nms_byt hl).1))))))))),fun x hx => ?_⟩
  simp only [List.mem_append,List.mem_cons,List.nil_append] at hx
  rcases hx with hx | hx | hx | hx | hx | hx | hx | hx | hx | hx
  ·exact w13 x hx
  ·omega
  ·exact (d0 o10).2 x hx
  ·omega
  ·exact (d0 n10).2 x hx
  ·omega
  ·exact (d0 k10).2 x hx
  ·omega
  ·exact (d0 c10).2 x hx
  ·rcases hx with hx | hx
   ·omega
   ·exact dg13 hl x hx
 have z5:hdrOf (bunW++32::(dgA 20 b.Origin.toNat []++32::(dgA 20 b.Number.toNat []++32::(dgA 20 b.Mails.length []++32::(dgA 20 c.length []++32::([]++nmsL [sumL c]))))))=(zH,false):=by
  unfold hdrOf
  rw [spl_app no32W,spl_app (dig_no32 (by omega)),spl_app (dig_no32 (by omega)),spl_app (dig_no32 (by omega)),spl_app (dig_no32 (by omega)),spl_nms _ _ (by
   intro n hn
   simp only [List.mem_cons,List.not_mem_nil,or_false] at hn
   omega) (by simp)]
  exact hdrW_no (by simp)
 have y3:bundle_Bytes (T_Bundle.mk ((b.Origin.toNat:Nat):Int) ((b.Number.toNat:Nat):Int) b.Mails)=some (L++13::10::c,0):=by
  rw [eo,en]; exact hby
 have q3:bytes_Equal (L++13::10::c) (bunW++nmsL [b.Origin.toNat,b.Number.toNat,b.Mails.length+1,c.length,sumL c]++13::10::c)=some false:=by
  rw [bequal,decide_eq_false]
  intro h
  have h:=congrArg sbytes h
  have e13:byt (13::10::c):=byt_cons (by omega) (byt_cons (by omega) f2)
  rw [sbytes_bstr (byt_app f1 e13),sbytes_bstr (byt_app (byt_app bunW_byt (nms_byt (hn18 (hn10 o10 n10 (by omega) c10 s10))).1) e13)] at h
  have h:=List.append_cancel_right h
  rw [← hL,g5] at h
  have h:=nms_inj (hn10 o10 n10 k10 c10 s10) (hn10 o10 n10 (by omega) c10 s10) h
  simp at h
 have y6:bundle_Bytes (T_Bundle.mk ((b.Origin.toNat:Nat):Int) ((65536:Nat):Int) b.Mails)=some ([],5):=by
  obtain ⟨e,he,h5,h0⟩:=chk_eq (b:=T_Bundle.mk ((b.Origin.toNat:Nat):Int) ((65536:Nat):Int) b.Mails) hmf hl20
  rcases h5 with rfl | rfl
  ·have:=(h0 rfl).2.2.1
   exact absurd this (by show ¬ ((65536:Nat):Int)≤65535; decide)
  ·unfold bundle_Bytes
   exact bnd he (cnd_t rfl rfl)
 have e65:dgA 20 65536 []=[54,53,53,51,54]:=by decide
 have h0:=fin x37 (by omega) (by simp [nmsL]) b0.1 b0.2 z0 (.inl rfl)
 have h1:=fin x50 (by omega) (by simp [nmsL]) b1.1 b1.2 z1 (.inl rfl)
 have h2:=fin (l':=bunW++nmsL [b.Origin.toNat+2,b.Number.toNat,b.Mails.length,c.length,sumL c]) x64 (by omega) (by simp [nmsL]) (byt_app bunW_byt (nms_byt (hn18 (hn10 (by omega) n10 k10 c10 s10))).1) (line13 (hn18 (hn10 (by omega) n10 k10 c10 s10))) (hdr_known (by omega) n10 k10 c10 s10) (.inl (decide_eq_false (by omega)))
 have h3:=fin (l':=bunW++nmsL [b.Origin.toNat,b.Number.toNat,b.Mails.length+1,c.length,sumL c]) x78 (by omega) (by simp [nmsL]) (byt_app bunW_byt (nms_byt (hn18 (hn10 o10 n10 (by omega) c10 s10))).1) (line13 (hn18 (hn10 o10 n10 (by omega) c10 s10))) (hdr_known o10 n10 (by omega) c10 s10) (.inr (.inr ⟨rfl,rfl,b.Mails,L++13::10::c,0,hps,y3,.inr q3⟩))
 have h4:=fin (l':=bunW++nmsL [b.Origin.toNat,b.Number.toNat,b.Mails.length,c.length+1,sumL c]) x92 (by omega) (by simp [nmsL]) (byt_app bunW_byt (nms_byt (hn18 (hn10 o10 n10 k10 (by omega) s10))).1) (line13 (hn18 (hn10 o10 n10 k10 (by omega) s10))) (hdr_known o10 n10 k10 (by omega) s10) (.inr (.inl (by show ((c.length+1:Nat):Int)≠(c.length:Int); omega)))
 have h5:=fin x105 (by omega) (by simp [nmsL]) b5.1 b5.2 z5 (.inl rfl)
 have h6:=fin (l':=bunW++nmsL [b.Origin.toNat,65536,b.Mails.length,c.length,sumL c]) x115 (by omega) (by simp [nmsL,e65]) (byt_app bunW_byt (nms_byt (hn18 (hn10 o10 (by omega) k10 c10 s10))).1) (line13 (hn18 (hn10 o10 (by omega) k10 c10 s10))) (hdr_known o10 (by omega) k10 c10 s10) (.inr (.inr ⟨rfl,rfl,b.Mails,[],5,hps,y6,.inl (by decide)⟩))
 obtain ⟨A,hA⟩:∃ A:Nat,IntKind.u64.wrap how=(A:Int):=⟨(IntKind.u64.wrap how).toNat,by have:=wrap_u64s_nn how; omega⟩
 have hr:=rem_nat A 7 (by omega)
 rw [show ((7:Nat):Int)=7 from rfl] at hr
 have hF:A % 7<7:=Nat.mod_lt _ (by omega)
 generalize A % 7=r at *
 have wF:IntKind.i64.wrap (r:Int)=(r:Int):=wrap_i64 (by omega) (by omega)
 obtain ⟨s,hg,w,hc1,z,ha1,hz⟩:∃ s,getO [v37,v50,v64,v78,v92,v105,v115] r=some s∧∃ w,catO s (⟨#[13,10]⟩:ByteArray)=some w∧∃ z,appO 1 (sbytes w) c=some z∧bundle_Read_ro z=some (T_Bundle.mk 0 0 [],5):=by
  have h7:r=0∨r=1∨r=2∨r=3∨r=4∨r=5∨r=6:=by omega
  rcases h7 with rfl | rfl | rfl | rfl | rfl | rfl | rfl
  ·exact ⟨_,rfl,h0⟩
  ·exact ⟨_,rfl,h1⟩
  ·exact ⟨_,rfl,h2⟩
  ·exact ⟨_,rfl,h3⟩
  ·exact ⟨_,rfl,h4⟩
  ·exact ⟨_,rfl,h5⟩
  ·exact ⟨_,rfl,h6⟩
 have hix:ixO (r:Int) [v37,v50,v64,v78,v92,v105,v115].length=some r:=ixO_of hF
 refine bndL (hf_loop f3 (by omega)) (bnd (congrArg some w21) (bnd hsli (bnd (rlong_eq f2 (by omega)) ?_)))
 refine bnd d24 ?_
 refine bnd d25 ?_
 refine bnd c26 ?_
 refine bnd c27 ?_
 refine bnd d28 ?_
 refine bnd c29 ?_
 refine bnd c30 ?_
 refine bnd d31 ?_
 refine bnd c32 ?_
 refine bnd c33 ?_
 refine bnd d34 ?_
 refine bnd c35 ?_
 refine bnd c36 ?_
 refine bnd c37 ?_
 refine bnd d38 ?_
 refine bnd c39 ?_
 refine bnd c40 ?_
 refine bnd d41 ?_
 refine bnd c42 ?_
 refine bnd c43 ?_
 refine bnd d44 ?_
 refine bnd c45 ?_
 refine bnd c46 ?_
 refine bnd d47 ?_
 refine bnd c48 ?_
 refine bnd c49 ?_
 refine bnd c50 ?_
 refine bnd (congrArg some w51) ?_
 refine bnd d52 ?_
 refine bnd c53 ?_
 refine bnd c54 ?_
 refine bnd d55 ?_
 refine bnd c56 ?_
 refine bnd c57 ?_
 refine bnd d58 ?_
 refine bnd c59 ?_
 refine bnd c60 ?_
 refine bnd d61 ?_
 refine bnd c62 ?_
 refine bnd c63 ?_
 refine bnd c64 ?_
 refine bnd d65 ?_
 refine bnd c66 ?_
 refine bnd c67 ?_
 refine bnd d68 ?_
 refine bnd c69 ?_
 refine bnd c70 ?_
 refine bnd (congrArg some w71) ?_
 refine bnd d72 ?_
 refine bnd c73 ?_
 refine bnd c74 ?_
 refine bnd d75 ?_
 refine bnd c76 ?_
 refine bnd c77 ?_
 refine bnd c78 ?_
 refine bnd d79 ?_
 refine bnd c80 ?_
 refine bnd c81 ?_
 refine bnd d82 ?_
 refine bnd c83 ?_
 refine bnd c84 ?_
 refine bnd d85 ?_
 refine bnd c86 ?_
 refine bnd c87 ?_
 refine bnd (congrArg some w88) ?_
 refine bnd d89 ?_
 refine bnd c90 ?_
 refine bnd c91 ?_
 refine bnd c92 ?_
 refine bnd d93 ?_
 refine bnd c94 ?_
 refine bnd c95 ?_
 refine bnd d96 ?_
 refine bnd c97 ?_
 refine bnd c98 ?_
 refine bnd d99 ?_
 refine bnd c100 ?_
 refine bnd c101 ?_
 refine bnd d102 ?_
 refine bnd c103 ?_
 refine bnd c104 ?_
 refine bnd c105 ?_
 refine bnd d106 ?_
 refine bnd c107 ?_
 refine bnd c108 ?_
 refine bnd d109 ?_
 refine bnd c110 ?_
 refine bnd c111 ?_
 refine bnd d112 ?_
 refine bnd c113 ?_
 refine bnd c114 ?_
 refine bnd c115 ?_
 exact (bnd (congrArg some hA) (bnd hr (bnd (congrArg some wF) (bnd hix (bnd hg (bnd hc1 (bnd rfl (bnd ha1 (bnd hz (bnd hrw (bndL (s:=true) (cnd_t rfl (bnd keepZ17 (cnd_t rfl (cnd_t rfl (bnd hkb (cnd_t rfl (bnd wakes17 rfl))))))) rfl)))))))))))
end Go.Abs.Sh
