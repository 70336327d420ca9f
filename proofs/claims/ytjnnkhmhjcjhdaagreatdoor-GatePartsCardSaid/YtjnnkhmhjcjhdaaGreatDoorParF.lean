import Derived.Test.YtjnnkhmhjcjhdaaGreatDoorDotA
set_option linter.unusedVariables false
set_option linter.unusedSimpArgs false
set_option linter.unusedSectionVars false
namespace Go.Abs.Sh
set_option linter.unusedVariables false
set_option linter.unusedSimpArgs false
def Tt {A:Type} (x:Option A) (P:A→Prop):Prop:=∃ r,x=some r∧P r
theorem tS {A:Type} {r:A} {P:A→Prop} (h:P r):Tt (some r) P:=⟨r,rfl,h⟩
theorem tB {A B:Type} {x:Option A} {f:A→Option B} {P:A→Prop} {Q:B→Prop} (h:Tt x P) (k:∀ r,P r→Tt (f r) Q):Tt (x.bind f) Q:=by
 obtain ⟨r,rfl,hr⟩:=h; exact k r hr
theorem tV {A B:Type} {r:A} {f:A→Option B} {Q:B→Prop} (h:Tt (f r) Q):Tt ((some r).bind f) Q:=h
theorem tQ {A B:Type} {x:Option A} {r:A} {f:A→Option B} {Q:B→Prop} (h:x=some r) (k:Tt (f r) Q):Tt (x.bind f) Q:=by subst h; exact k
theorem tC {A:Type} {c:Bool} {x y:Option A} {P:A→Prop} (h:c=true→Tt x P) (k:c=false→Tt y P):Tt (cond c x y) P:=by
 cases c
 ·exact k rfl
 ·exact h rfl
theorem tD {A:Type} {p:Prop} [Decidable p] {x y:Option A} {P:A→Prop} (h:p→Tt x P) (k:¬ p→Tt y P):Tt (cond (decide p) x y) P:=by
 by_cases hp:p
 ·rw [decide_eq_true hp]; exact h hp
 ·rw [decide_eq_false hp]; exact k hp
theorem tE {A:Type} {a b:Int} {x y:Option A} {P:A→Prop} (h:a=b→Tt x P) (k:a≠b→Tt y P):Tt (cond (a==b) x y) P :=
 tC (fun e=>h (beq_iff_eq.1 e)) fun e=>k (beq_eq_false_iff_ne.1 e)
theorem tN {A:Type} {a b:Int} {x y:Option A} {P:A→Prop} (h:a≠b→Tt x P) (k:a=b→Tt y P):Tt (cond (a != b) x y) P :=
 tC (fun e=>h (bne_iff_ne.1 e)) fun e=>k (bne_eq_false_iff_eq.1 e)
section
variable {A B:Type} {f:Int→Option B} {Q:B→Prop}
theorem tW {e:Int} (h0 : -9223372036854775808≤e) (h1:e<9223372036854775808) (h:Tt (f e) Q):Tt ((some (IntKind.i64.wrap e)).bind f) Q:=by
 rw [eB h0 h1]; exact h
theorem Bg {k:IntKind} (hk:k.signed=false) (e:Int):0≤k.wrap e∧k.wrap e<2 ^ k.bits:=by
 have hp:(0:Int)<2 ^ k.bits:=Int.pow_pos (by decide)
 unfold IntKind.wrap
 rw [hk]
 simp only [Bool.false_and,Bool.false_eq_true,if_false]
 exact ⟨Int.emod_nonneg _ (by omega),Int.emod_lt_of_pos _ hp⟩
theorem tU (k:IntKind) (hk:k.signed=false) {e:Int} (h:∀ r,0≤r→r<2 ^ k.bits→Tt (f r) Q):Tt ((some (k.wrap e)).bind f) Q:=h _ (Bg hk e).1 (Bg hk e).2
theorem xR {e:Int} (h:∀ r,0≤r→r<4294967296→Tt (f r) Q):Tt ((some (IntKind.u32.wrap e)).bind f) Q:=tU .u32 rfl h
theorem ID {e:Int} (h:∀ r,0≤r→r<256→Tt (f r) Q):Tt ((some (IntKind.u8.wrap e)).bind f) Q:=tU .u8 rfl h
theorem GS {e:Int} (h:∀ r,0≤r→r<18446744073709551616→Tt (f r) Q):Tt ((some (IntKind.u64.wrap e)).bind f) Q:=tU .u64 rfl h
theorem sU {o:BinOp} {a b:Int} (h:∀ r,0≤r→r<4294967296→Tt (f r) Q):Tt ((some (bits o .u32 a b)).bind f) Q:=tU .u32 rfl h
theorem JL {o:BinOp} {a b:Int} (h:∀ r,0≤r→r<256→Tt (f r) Q):Tt ((some (bits o .u8 a b)).bind f) Q:=tU .u8 rfl h
theorem Cz {k:IntKind} (hk:k.signed=false) {a b:Int} (hb:0≤b) (hb2:b<2 ^ k.bits):0≤bits .and k a b∧bits .and k a b≤b:=by
 have e:bits .and k a b=k.wrap (((BitVec.ofInt k.bits a &&& BitVec.ofInt k.bits b).toNat:Nat):Int):=rfl
 have h1:(BitVec.ofInt k.bits a &&& BitVec.ofInt k.bits b).toNat≤(BitVec.ofInt k.bits b).toNat:=by rw [BitVec.toNat_and]; exact Nat.and_le_right
 have h2:(((BitVec.ofInt k.bits b).toNat:Nat):Int)=b:=by rw [BitVec.toNat_ofInt,Int.toNat_of_nonneg (Int.emod_nonneg _ (by have:=Nat.two_pow_pos k.bits; omega))]; exact Int.emod_eq_of_lt hb (by push_cast; exact hb2)
 have h3:k.wrap (((BitVec.ofInt k.bits a &&& BitVec.ofInt k.bits b).toNat:Nat):Int)=(((BitVec.ofInt k.bits a &&& BitVec.ofInt k.bits b).toNat:Nat):Int):=by
  unfold IntKind.wrap
  rw [hk]
  simp only [Bool.false_and,Bool.false_eq_true,if_false]
  exact Int.emod_eq_of_lt (by omega) (by omega)
 rw [e,h3]
 omega
theorem Hk (k:IntKind) (hk:k.signed=false) {a b:Int} (hb:0≤b) (hb2:b<2 ^ k.bits) (h:∀ r,0≤r→r≤b→Tt (f r) Q):Tt ((some (bits .and k a b)).bind f) Q:=h _ (Cz hk hb hb2).1 (Cz hk hb hb2).2
theorem FG {a b:Int} (hb:0≤b) (hb2:b<4294967296) (h:∀ r,0≤r→r≤b→Tt (f r) Q):Tt ((some (bits .and .u32 a b)).bind f) Q:=Hk .u32 rfl hb hb2 h
theorem GJ {a b:Int} (hb:0≤b) (hb2:b<256) (h:∀ r,0≤r→r≤b→Tt (f r) Q):Tt ((some (bits .and .u8 a b)).bind f) Q:=Hk .u8 rfl hb hb2 h
theorem GZ (k:IntKind) (hk:k.signed=false) {a b:Int} (hb:0≤b) (h:∀ r,0≤r→r<2 ^ k.bits→Tt (f r) Q):Tt ((qC k a b).bind f) Q:=by
 unfold qC
 rw [if_pos hb]
 exact tU k hk h
theorem uI {a b:Int} (hb:0≤b) (h:∀ r,0≤r→r<4294967296→Tt (f r) Q):Tt ((qC .u32 a b).bind f) Q:=GZ .u32 rfl hb h
theorem FB {a b:Int} (hb:0≤b) (h:∀ r,0≤r→r<18446744073709551616→Tt (f r) Q):Tt ((qC .u64 a b).bind f) Q:=GZ .u64 rfl hb h
theorem Cf {k:IntKind} {a b:Int} (ha:0≤a) (hb:0≤b) (h:∀ r,0≤r→r≤a→Tt (f r) Q):Tt ((mw k a b).bind f) Q:=by
 unfold mw
 rw [if_pos hb]
 have hp:(0:Int)<2 ^ min b.toNat k.bits:=Int.pow_pos (by decide)
 refine h _ (Int.fdiv_nonneg ha (by omega)) ?_
 rw [Int.fdiv_eq_ediv_of_nonneg _ (by omega)]
 exact Int.ediv_le_self _ ha
theorem GY {a:Int} (ha:0≤a) (ha2:a<256) (h:∀ r,0≤r→r<16→Tt (f r) Q):Tt ((mw .u8 a 4).bind f) Q:=by
 have e:mw .u8 a 4=some (a / 16):=by
  unfold mw
  rw [if_pos (by decide),Int.fdiv_eq_ediv_of_nonneg _ (by decide)]
  rfl
 rw [e]
 exact h _ (by omega) (by omega)
theorem xl {a b:Int} (ha:0≤a) (hb:0<b) (h:∀ r,r=a % b→0≤r→r<b→Tt (f r) Q):Tt ((pO a b).bind f) Q:=by
 unfold pO
 rw [if_neg (by omega),Int.tmod_eq_emod_of_nonneg ha]
 exact h _ rfl (Int.emod_nonneg _ (by omega)) (Int.emod_lt_of_pos _ hb)
theorem CR {a b:Int} (ha:0≤a) (ha2:a<9223372036854775808) (hb:0<b) (h:∀ r,r=a / b→0≤r→r≤a→Tt (f r) Q):Tt ((vf .i64 a b).bind f) Q:=by
 unfold vf
 have h1:0≤a / b:=Int.ediv_nonneg ha (by omega)
 have h2:a / b≤a:=Int.ediv_le_self _ ha
 rw [if_neg (by omega),Int.tdiv_eq_ediv_of_nonneg ha,eB (by omega) (by omega)]
 exact h _ rfl h1 h2
theorem Ce {s:KK} {i:Int} (h0:0≤i) (h1:i<(s.size:Int)) (h:∀ r,0≤r→r<256→Tt (f r) Q):Tt ((gf s i).bind f) Q:=by
 obtain ⟨n,rfl⟩:∃ n:Nat,i=(n:Int):=⟨i.toNat,by omega⟩
 have hn:n<s.size:=by omega
 rw [BZ hn]
 have:=cG s _ (List.getElem_mem (by rw [aD]; exact hn))
 exact h _ this.1 this.2
end
section
variable {A B:Type} {Q:B→Prop}
theorem kZ {i:Int} {n:Nat} {f:Nat→Option B} (h0:0≤i) (h1:i<(n:Int)) (h:∀ k:Nat,(k:Int)=i→k<n→Tt (f k) Q):Tt ((fL i n).bind f) Q:=by
 unfold fL
 rw [if_pos ⟨h0,h1⟩]
 exact h _ (by omega) (by omega)
theorem tG {l:List A} {k:Nat} {f:A→Option B} (h0:k<l.length) (h:∀ x,x∈l→Tt (f x) Q):Tt ((bQ l k).bind f) Q:=by
 rw [gq h0]; exact h _ (List.getElem_mem h0)
theorem IG {l:List A} {k:Nat} {x:A} {f:List A→Option B} (h0:k<l.length) (h:Tt (f (l.set k x)) Q):Tt ((uH l k x).bind f) Q:=by
 unfold uH; rw [if_pos h0]; exact h
theorem mE {l:List A} {n:Nat} {f:List A→Option B} (h0:l.length=n) (h:Tt (f l) Q):Tt ((kY n l).bind f) Q:=by
 unfold kY; rw [if_pos h0]; exact h
theorem JW {b:Nat} {n:Int} {z:A} {f:List A→Option B} (h0:0≤n) (h1:b * n.toNat≤140737488355328) (h:Tt (f (List.replicate n.toNat z)) Q):Tt ((HH b n z).bind f) Q:=by
 unfold HH; rw [if_pos ⟨h0,h1⟩]; exact h
theorem JM {b:Nat} {n:Int} {f:Unit→Option B} (h0:0≤n) (h1:b * n.toNat≤140737488355328) (h:Tt (f ()) Q):Tt ((As b n).bind f) Q:=by
 unfold As; rw [if_pos ⟨h0,h1⟩]; exact h
theorem Gz {l:List A} {a b:Int} {f:List A→Option B} (h0:0≤a) (h1:a≤b) (h2:b≤(l.length:Int)) (h:∀ r,(r.length:Int)=b-a→(∀ x∈r,x∈l)→Tt (f r) Q):Tt ((iZ l a b).bind f) Q:=by
 unfold iZ
 rw [if_pos ⟨h0,h1,h2⟩]
 exact h _ (by rw [List.length_take,List.length_drop]; omega) fun x hx=>List.mem_of_mem_drop (List.mem_of_mem_take hx)
theorem tA {l m:List A} {b:Nat} {f:List A→Option B} (h0:(l.length+m.length) * b≤140737488355328) (h1:l.length+m.length≤140737488355328) (h:∀ r,r=l++m→r.length=l.length+m.length→Tt (f r) Q):Tt ((cq b l m).bind f) Q:=by
 rw [jE h0 h1]; exact h _ rfl List.length_append
theorem Hm {s:KK} {a b:Int} {f:KK→Option B} (h0:0≤a) (h1:a≤b) (h2:b≤(s.size:Int)) (h:∀ r,(r.size:Int)=b-a→Tt (f r) Q):Tt ((jj s a b).bind f) Q:=by
 unfold jj
 rw [if_pos ⟨h0,h1,h2⟩]
 exact h _ (by rw [ByteArray.size_extract]; omega)
theorem vD {s t:KK} {f:KK→Option B} (h0:s.size+t.size≤9223372036854775807) (h:∀ r,r.size=s.size+t.size→Tt (f r) Q):Tt ((kR s t).bind f) Q:=by
 unfold kR
 rw [if_pos h0]
 exact h _ ByteArray.size_append
theorem JH {l:List Int} {f:KK→Option B} (h0:dv l) (h:∀ r,r.size=l.length→Tt (f r) Q):Tt ((xT l).bind f) Q:=by
 unfold xT
 rw [if_pos (by simp only [List.all_eq_true,decide_eq_true_eq]; exact h0)]
 exact h _ (fm l)
end
theorem Hg {S O:Type} {step:S→Option (S⊕O)} (I:S→Prop) (m:S→Nat) {J:O→Prop} (hs:∀ s,I s→Tt (step s) (Sum.elim (fun s'=>I s'∧m s'<m s) J)):∀ (n:Nat) (s:S),I s→m s<n→Tt (bl step n s) J
 | 0,s,_,h=>by omega
 | n+1,s,h,hm=>by
  obtain ⟨r,h1,h2⟩:=hs s h
  cases r with
  | inl s'=>rw [lw h1]; exact Hg I m hs n s' h2.1 (by have:=h2.2; omega)
  | inr o=>rw [gX h1]; exact ⟨o,rfl,h2⟩
theorem tL {S O:Type} {step:S→Option (S⊕O)} {s0:S} (I:S→Prop) (m:S→Nat) {J:O→Prop} (h0:I s0) (hm:m s0<dH) (hs:∀ s,I s→Tt (step s) (Sum.elim (fun s'=>I s'∧m s'<m s) J)):Tt (bl step dH s0) J:=Hg I m hs dH s0 h0 hm
theorem tJ {S A R:Type} {m:Option (S⊕A)} {k:S→Option R} {e:A→Option R} {Q:R→Prop} (P:S→Prop) (R':A→Prop) (h:Tt m (Sum.elim P R')) (hk:∀ s,P s→Tt (k s) Q) (he:∀ a,R' a→Tt (e a) Q):Tt (aA m k e) Q:=by
 obtain ⟨r,rfl,hr⟩:=h
 cases r with
 | inl s=>exact hk s hr
 | inr a=>exact he a hr
theorem lR {S R:Type} {m:Option (S⊕R)} {k:S→Option R} {Q:R→Prop} (P:S→Prop) (h:Tt m (Sum.elim P Q)) (hk:∀ s,P s→Tt (k s) Q):Tt (aA m k some) Q:=tJ P Q h hk fun a h=>tS h
theorem lX {S R:Type} {m:Option (S⊕R)} {k:S→Option R} {Q:R→Prop} (h:Tt m (Sum.elim (fun _=>True) Q)) (hk:∀ s,Tt (k s) Q):Tt (aA m k some) Q:=lR _ h fun s _=>hk s
theorem BN {S R:Type} {m:Option (S⊕R)} {k:S→Option R} {Q:R→Prop} (h:Tt m (Sum.elim (fun s=>Tt (k s) Q) Q)):Tt (aA m k some) Q:=lR _ h fun s h=>h
theorem bT {S A:Type} {s:S} {P:S→Prop} {Q:A→Prop} (h:P s):Tt (some (Sum.inl s)) (Sum.elim P Q):=⟨_,rfl,h⟩
theorem kB {S A:Type} {a:A} {P:S→Prop} {Q:A→Prop} (h:Q a):Tt (some (Sum.inr a)) (Sum.elim P Q):=⟨_,rfl,h⟩
set_option maxRecDepth 10000
theorem GF {X S O:Type} {step:X→S→Option (S⊕O)} (I:Nat→S→Prop) {J:O→Prop} (N:Nat):∀ (l:List X) (n:Nat) (s:S),n+l.length≤N→(∀ x∈l,∀ m s,m<N→I m s→Tt (step x s) (Sum.elim (I (m+1)) J))→I n s→Tt (vj step l s) (Sum.elim (fun s=>∃ m,m≤N∧I m s) J)
 | [],n,s,hn,_,h=>bT ⟨n,hn,h⟩
 | x::l,n,s,hn,hs,h=>by
  rw [List.length_cons] at hn
  obtain ⟨r,h1,h2⟩:=hs x List.mem_cons_self n s (by omega) h
  unfold vj
  rw [h1]
  cases r with
  | inl s'=>exact GF I N l (n+1) s' (by omega) (fun y hy=>hs y (List.mem_cons_of_mem _ hy)) h2
  | inr o=>exact kB h2
theorem ud (c:Int):∀ (l:List Int),(pb c l).length≤l.length+1
 | []=>by simp [pb]
 | x::l=>by
  have ih:=ud c l
  unfold pb
  split
  ·simp only [List.length_cons]; omega
  ·split
   ·simp
   ·rename_i q qs e
    rw [e] at ih
    simp only [List.length_cons] at ih ⊢
    omega
theorem Ba (c:Int):∀ (l:List Int),∀ p∈pb c l,p.length≤l.length
 | [],p,hp=>by simp [pb] at hp; simp [hp]
 | x::l,p,hp=>by
  have ih:=Ba c l
  unfold pb at hp
  split at hp
  ·simp only [List.mem_cons] at hp
   rcases hp with rfl | hp
   ·simp
   ·have:=ih p hp; simp; omega
  ·split at hp
   ·simp at hp; subst hp; simp
   ·rename_i q qs e
    rw [e] at ih
    simp only [List.mem_cons] at hp ih
    rcases hp with rfl | hp
    ·have:=ih q (.inl rfl); simp; omega
    ·have:=ih p (.inr hp); simp; omega
theorem CV (c:Int) (s:KK):∀ x∈sQ c s,x.size≤s.size:=fun x hx=>by
 obtain ⟨p,hp,rfl⟩:=List.mem_map.1 hx
 rw [fm,← aD]
 exact Ba c _ p hp
theorem Fx {S O:Type} (n:Nat) (hn:n<256) {step:KK→S→Option (S⊕O)} {s:KK} {st:S} (I:Nat→S→Prop) {J:O→Prop} (hs:s.size<4611686018427387904) (h0:I 0 st) (h:∀ x:KK,x.size≤s.size→∀ m st,m<s.size+1→I m st→Tt (step x st) (Sum.elim (I (m+1)) J)) :
  Tt (fW (S:=S) (O:=O) (fun Y st=>bu Y ⟨#[UInt8.ofNat n]⟩ s 0 st) step st) (Sum.elim (fun s'=>∃ m,m≤s.size+1∧I m s') J):=by
 obtain ⟨r,h1,h2⟩:=GF I (s.size+1) (sQ (n:Int) s) 0 st (by
  have:=ud (n:Int) (ao s)
  rw [aD] at this
  rw [sQ,List.length_map]; omega) (fun x hx=>h x (CV _ s x hx)) h0
 exact ⟨r,qy n hn step s st hs r h1,h2⟩
theorem qj (s:KK) (hs:s.size<4611686018427387904):Tt (dC s) (fun r=>r.size=s.size):=by
 have hl:=aD s
 unfold dC
 refine tV (lR (fun l:List Int=>l.length=s.size) (tL (fun x:List Int×Int=>x.1.length=s.size∧0≤x.2∧x.2≤(s.size:Int)) (fun x=>s.size-x.2.toNat) ⟨hl,by omega,by show (0:Int)≤_; omega⟩ (by simp only [dH]; omega) ?_) fun l hl=>tV (tS (by rw [fm]; exact hl)))
 rintro ⟨l,i⟩ ⟨h1,h2,h3⟩
 dsimp only at h1 h2 h3
 have hv:(ao s).length=s.size:=hl
 refine tD (fun _ => ?_) fun _=>kB (a:=Sum.inl l) h1
 refine lR (fun l':List Int=>l'.length=s.size) (kZ (by omega) (by omega) fun k _ _=>tG (by omega) fun x _=>lX (tD (fun _=>bT trivial) fun _=>bT trivial) fun b=>tC (fun _=>ID fun _ _ _=>kZ (by omega) (by omega) fun _ _ _=>tV (bT (by rw [List.length_set]; exact h1))) fun _=>bT h1) fun l' h'=>tW (by omega) (by omega) (bT ⟨⟨h',by show (0:Int)≤i+1; omega,by show i+1≤_; omega⟩,?_⟩)
 show s.size-(i+1).toNat<s.size-i.toNat
 omega
theorem pI (a b:KK) (ha:a.size<4611686018427387904) (hb:b.size<4611686018427387904):∃ r,ez a b=some r∧dh a b=some r:=by
 obtain ⟨x,hx,_⟩:=qj a ha
 obtain ⟨y,hy,_⟩:=qj b hb
 exact ⟨_,aX hx (aX hy rfl),aX hx (aX hy rfl)⟩
theorem qT (a b:KK) (ha:a.size<4611686018427387904) (hb:b.size<4611686018427387904):Tt (dh a b) fun _=>True:=by
 obtain ⟨r,_,h⟩:=pI a b ha hb
 exact ⟨r,h,trivial⟩
theorem vF (s:KK) (k:Int) (hs:s.size<4611686018427387904):Tt (dY s k) fun _=>True:=by
 unfold dY
 refine lX (tL (fun i:Int=>0≤i∧i≤((s.size:Nat):Int)) (fun i=>s.size-i.toNat) ⟨by omega,by omega⟩ (by simp only [dH]; omega) ?_) (fun _=>tS trivial)
 rintro i ⟨h0,h1⟩
 repeat' with_reducible first | exact trivial | refine tW (by omega) (by omega) ?_ | refine Ce (by omega) (by omega) (fun _ _ _ => ?_) | refine kZ (by omega) (by omega) (fun _ _ _ => ?_) | refine tG (by omega) (fun _ _ => ?_) | refine tD (fun _ => ?_) (fun _ => ?_) | refine tE (fun _ => ?_) (fun _ => ?_) | refine tN (fun _ => ?_) (fun _ => ?_) | refine tC (fun _ => ?_) (fun _ => ?_) | refine bT ?_ | refine kB ?_ | refine BN ?_ | refine tV ?_ | refine tS ?_
 all_goals first | exact trivial | omega | (dsimp only; omega)
theorem vL (s:KK) (hs:s.size<4611686018427387904):Tt (fN s) fun _=>True:=by
 unfold fN
 refine lX (tL (fun i:Int=>0≤i∧i≤((s.size:Nat):Int)) (fun i=>s.size-i.toNat) ⟨by omega,by omega⟩ (by simp only [dH]; omega) ?_) (fun _=>tS trivial)
 rintro i ⟨h0,h1⟩
 repeat' with_reducible first | exact trivial | refine tW (by omega) (by omega) ?_ | refine Ce (by omega) (by omega) (fun _ _ _ => ?_) | refine kZ (by omega) (by omega) (fun _ _ _ => ?_) | refine tG (by omega) (fun _ _ => ?_) | refine tD (fun _ => ?_) (fun _ => ?_) | refine tE (fun _ => ?_) (fun _ => ?_) | refine tN (fun _ => ?_) (fun _ => ?_) | refine tC (fun _ => ?_) (fun _ => ?_) | refine bT ?_ | refine kB ?_ | refine BN ?_ | refine tV ?_ | refine tS ?_
 all_goals first | exact trivial | omega | (dsimp only; omega)
theorem Bl (s:KK) (hs:s.size<4611686018427387904):Tt (jP s) fun _=>True:=by
 unfold jP
 repeat' with_reducible first | exact trivial | refine tB (vF s _ hs) (fun _ _ => ?_) | refine tW (by omega) (by omega) ?_ | refine Ce (by omega) (by omega) (fun _ _ _ => ?_) | refine kZ (by omega) (by omega) (fun _ _ _ => ?_) | refine tG (by omega) (fun _ _ => ?_) | refine tD (fun _ => ?_) (fun _ => ?_) | refine tE (fun _ => ?_) (fun _ => ?_) | refine tN (fun _ => ?_) (fun _ => ?_) | refine tC (fun _ => ?_) (fun _ => ?_) | refine bT ?_ | refine kB ?_ | refine BN ?_ | refine tV ?_ | refine tS ?_
theorem rC (s:KK) (hs:s.size<4611686018427387904):Tt (cx s) fun _=>True:=⟨_,Cm s hs,trivial⟩
theorem yC {n:Nat} (hn:n<256) (s:KK) (hs:s.size<4611686018427387904):Tt (dx s ⟨#[UInt8.ofNat n]⟩) fun r=>r.1.size≤s.size∧r.2.1.size≤s.size:=by
 refine ⟨_,FP hn s hs,?_⟩
 cases h:mS (n:Int) (ao s) with
 | none=>exact ⟨Nat.le_refl _,Nat.zero_le _⟩
 | some e=>exact ⟨by rw [fm,List.length_take,aD]; omega,by rw [fm,List.length_drop,aD]; omega⟩
theorem EM (s p:KK):Tt (cH s p) fun r=>r.1.size≤s.size:=by
 refine ⟨_,uB s p,?_⟩
 split
 ·show (dw _).size≤_
  rw [fm,List.length_drop,aD]; omega
 ·exact Nat.le_refl _
theorem HS (s p:KK) (hs:s.size<4611686018427387904):Tt (dk s p) fun r=>r.1.size≤s.size:=by
 refine ⟨_,vp s p hs,?_⟩
 split
 ·show (dw _).size≤_
  rw [fm,List.length_take,aD]; omega
 ·exact Nat.le_refl _
theorem vo (p:T_Path) (h1:p.Ks.size<1152921504606846976) (h2:p.Kg.size<1152921504606846976):Tt (dF p) fun _=>True:=⟨_,BG p ⟨h1,h2⟩,trivial⟩
theorem CZ (s:KK) (hs:s.size<4294967296):Tt (jW s) fun r=>r.1.Ks.size≤s.size∧r.1.Kg.size≤s.size:=by
 unfold jW
 have z:∀ n:Nat,(⟨#[]⟩:KK).size≤n:=fun n=>Nat.zero_le _
 refine tC (fun _=>tS ⟨z _,z _⟩) fun _=>tB (EM s _) fun a ha=>tB (HS a.1 _ (by omega)) fun b hb=>tB (yC (n:=64) (by decide) b.1 (by omega)) fun c hc => ?_
 refine lX (tC (fun _=>bT trivial) fun _=>tC (fun _=>bT trivial) fun _=>tC (fun _=>bT trivial) fun _=>tB (vo _ (by dsimp only; omega) (by dsimp only; omega)) fun _ _=>bT trivial) fun _ => ?_
 exact tC (fun _=>tS ⟨z _,z _⟩) fun _=>tS ⟨by dsimp only; omega,by dsimp only; omega⟩
theorem wA (s:KK) (hs:s.size<4294967296):Tt (ij s) fun _=>True:=by
 unfold ij
 refine tB (yC (n:=32) (by decide) s (by omega)) fun a ha=>tB (qj a.1 (by omega)) fun b _=>lX (tC (fun _=>bT trivial) fun _=>bT trivial) fun _ => ?_
 repeat' first | exact tS trivial | refine tC (fun _ => ?_) (fun _ => ?_)
theorem tp (s p:KK) (hs:s.size<4294967296) (hp:p.size<4294967296):Tt (gu s p) fun r=>r.1.size≤s.size:=by
 unfold gu
 refine BN (tD (fun _=>bT ?_) fun h=>Hm (by omega) (by omega) (by omega) fun x hx=>tB (qT x p (by omega) (by omega)) fun _ _=>bT ?_)
 ·exact tC (fun _=>tS (Nat.zero_le _)) fun h=>by cases h
 ·refine tC (fun _=>tS (Nat.zero_le _)) fun _=>Hm (by omega) (by omega) (by omega) fun x hx=>tS ?_
  dsimp only; omega
theorem Ek (s:KK) (hs:s.size<4294967296):Tt (du s) fun _=>True:=by
 unfold du
 refine tB (tp s _ hs (by decide)) fun a ha=>lX (tC (fun _=>bT trivial) fun _=>tC (fun _=>bT trivial) fun _=>tB (qT a.1 _ (by omega) (by decide)) fun _ _=>bT trivial) fun _=>tC (fun _=>tS trivial) fun _ => ?_
 refine lX (tL (fun i:Int=>0≤i∧i≤((a.1.size:Nat):Int)) (fun i=>a.1.size-i.toNat) ⟨by omega,by omega⟩ (by simp only [dH]; omega) ?_) (fun _=>tS trivial)
 rintro i ⟨h0,h1⟩
 repeat' with_reducible first | exact trivial | refine Hm (by omega) (by omega) (by omega) (fun _ _ => ?_) | refine tB (rC _ (by omega)) (fun _ _ => ?_) | refine tW (by omega) (by omega) ?_ | refine Ce (by omega) (by omega) (fun _ _ _ => ?_) | refine kZ (by omega) (by omega) (fun _ _ _ => ?_) | refine tG (by omega) (fun _ _ => ?_) | refine tD (fun _ => ?_) (fun _ => ?_) | refine tE (fun _ => ?_) (fun _ => ?_) | refine tN (fun _ => ?_) (fun _ => ?_) | refine tC (fun _ => ?_) (fun _ => ?_) | refine bT ?_ | refine kB ?_ | refine BN ?_ | refine tV ?_ | refine tS ?_
 all_goals first | exact trivial | omega | (dsimp only; omega)
set_option maxRecDepth 10000
def Bn (n:Int) (q:aq):Int:=IntKind.i64.wrap (IntKind.i64.wrap (n+(q.Ko.size:Int))+(q.KJ.size:Int))
def Cv (c:Int):Bool:=decide (48≤c)&&decide (c≤57)
def Ew (l:List Int):Bool := !l.isEmpty&&(decide (l.length≤9)&&(!(l.head? == some 48&&decide (l≠[48]))&&l.all Cv))
theorem JR (s t:KK):(s.toList==t.toList)=decide (ao s=ao t):=by
 rw [jf]
 exact decide_eq_decide.2 ka
theorem sH {l:List Int} {p:Int→Bool} (h:¬ ∀ i,i<l.length→p (l.getD i 0)=true):l.all p=false:=by
 cases e:l.all p with
 | false=>rfl
 | true=>exact absurd ((nC l p).1 e) h
theorem Df {b:UInt8} (h:48≤b.toNat∧b.toNat≤57):Lib.digitVal b=some (b.toNat-48):=by
 unfold Lib.digitVal; rw [if_pos h]
theorem vy:∀ (l:List UInt8) (acc:Nat),(∀ b∈l,48≤b.toNat∧b.toNat≤57)→∃ n,Lib.decFrom acc l=some n
 | [],acc,_=>⟨acc,rfl⟩
 | b::r,acc,h=>by
  obtain ⟨n,hn⟩:=vy r (acc * 10+(b.toNat-48)) fun x hx=>h x (List.mem_cons_of_mem _ hx)
  refine ⟨n,?_⟩
  unfold Lib.decFrom
  rw [Df (h b List.mem_cons_self)]
  exact hn
theorem zV (s:KK) (h0:ao s≠[]) (h:(ao s).all Cv=true) (hs:s.size≤18):∃ r,strconv_Atoi s=some r:=by
 unfold strconv_Atoi
 rw [if_pos hs]
 have hb:∀ b∈s.data.toList,48≤b.toNat∧b.toNat≤57:=by
  intro b hb
  have:((b.toNat:Nat):Int)∈ao s:=by
   unfold ao
   exact List.mem_map.2 ⟨b,hb,rfl⟩
  have:=List.all_eq_true.1 h _ this
  simp only [Cv,Bool.and_eq_true,decide_eq_true_eq] at this
  omega
 cases hl:s.data.toList with
 | nil=>exact absurd (by unfold ao; rw [hl]; rfl) h0
 | cons b r =>
  rw [hl] at hb
  obtain ⟨n,hn⟩:=vy (b::r) 0 hb
  have hbb:=hb b List.mem_cons_self
  have h45:(b==45)=false:=beq_eq_false_iff_ne.2 fun e=>by rw [e] at hbb; exact absurd hbb.1 (by decide)
  have h43:(b==43)=false:=beq_eq_false_iff_ne.2 fun e=>by rw [e] at hbb; exact absurd hbb.1 (by decide)
  have he:Lib.atoi (b::r)=some (n:Int):=by
   unfold Lib.atoi
   simp only [h45,h43,Bool.false_eq_true,if_false,Lib.decNat,List.isEmpty_cons,hn]
   rfl
  rw [he]
  exact ⟨_,rfl⟩
theorem zB (s:KK) (hs:s.size<4611686018427387904):(bl (S:=(Int)) (O:=(Unit)⊕(Int×Bool)) (fun (s24:Int) =>
     cond ((decide (s24<(s.size:Int))))
      (aA (S:=Bool) (A:=((Int)⊕((Unit)⊕(Int×Bool))))
       ((gf s s24).bind fun v9 =>
       cond ((decide (v9<48)))
        (some (.inl true))
        ((gf s s24).bind fun v10 =>
        some (.inl ((decide (57<v10))))))
       (fun (s38:Bool) =>
        cond (s38)
         (some (.inr (.inr ((0,false)))))
         ((some (IntKind.i64.wrap (s24+1))).bind fun v16 =>
         some (.inl v16))) some)
      (some (.inr (.inl ()))))
     dH 0)=some (if (ao s).all Cv=true then .inl () else .inr (0,false)):=by
 have Bn:∀ i:Nat,i<s.size→((gf s (i:Int)).bind fun v9 =>
       cond ((decide (v9<48)))
        (some (.inl true))
        ((gf s (i:Int)).bind fun v10 =>
        some (.inl ((decide (57<v10))))):Option (Bool⊕((Int)⊕((Unit)⊕(Int×Bool)))))=some (.inl (!Cv ((ao s).getD i 0))):=by
  intro i hi
  have hc:=Av hi
  refine aX hc ?_
  unfold Cv
  by_cases h1:(ao s).getD i 0<48
  ·rw [decide_eq_true h1,decide_eq_false (p:=48≤(ao s).getD i 0) (by omega)]; rfl
  ·rw [decide_eq_false h1,decide_eq_true (p:=48≤(ao s).getD i 0) (by omega)]
   refine aX hc ?_
   by_cases h2:(ao s).getD i 0≤57
   ·rw [decide_eq_true h2,decide_eq_false (by omega)]; rfl
   ·rw [decide_eq_false h2,decide_eq_true (by omega)]; rfl
 have hloop:=wP (R:=Int×Bool) (f:=fun (s24:Int) =>
     cond ((decide (s24<(s.size:Int))))
      (aA (S:=Bool) (A:=((Int)⊕((Unit)⊕(Int×Bool))))
       ((gf s s24).bind fun v9 =>
       cond ((decide (v9<48)))
        (some (.inl true))
        ((gf s s24).bind fun v10 =>
        some (.inl ((decide (57<v10))))))
       (fun (s38:Bool) =>
        cond (s38)
         (some (.inr (.inr ((0,false)))))
         ((some (IntKind.i64.wrap (s24+1))).bind fun v16 =>
         some (.inl v16))) some)
      (some (.inr (.inl ())))) (fun i=>Cv ((ao s).getD i 0)) s.size (0,false) (fuel:=dH) (by simp only [dH]; omega)
  (fun i hi hp=>by
   replace hp:Cv ((ao s).getD i 0)=true:=hp
   have:=Bn i hi
   rw [hp] at this
   exact aL (decide_eq_true (by omega)) (bw this (au rfl (aX (um (by omega) (by omega)) rfl))))
  (fun i hi hp=>by
   replace hp:Cv ((ao s).getD i 0)=false:=hp
   have:=Bn i hi
   rw [hp] at this
   exact aL (decide_eq_true (by omega)) (bw this (aL rfl rfl)))
  (au (decide_eq_false (by omega)) rfl)
 rw [hloop]
 congr 1
 by_cases h:∀ i,i<s.size→Cv ((ao s).getD i 0)=true
 ·rw [if_pos h,if_pos ((nC _ _).2 (by rw [aD]; exact h))]
 ·rw [if_neg h,if_neg (by rw [sH (by rw [aD]; exact h)]; simp)]
theorem Gj (s:KK):∃ n,gm s 9=some (n,Ew (ao s)):=by
 unfold gm Ew
 have hE:=GP s
 cases he:(ao s).isEmpty with
 | true=>exact ⟨0,bw (s:=true) (aL (by rw [hE,he]) rfl) (aL rfl rfl)⟩
 | false =>
  rw [he] at hE
  by_cases hl:(ao s).length≤9
  ·rw [decide_eq_true hl]
   rw [aD] at hl
   have hne:ao s≠[]:=by intro h; rw [h] at he; cases he
   have h0:0<s.size:=by
    rw [← aD]; exact List.length_pos_iff.2 hne
   have hc:=Av h0
   have hh:=tv hne
   have hz:((s.toList==(⟨#[48]⟩:KK).toList))=decide (ao s=[48]):=by rw [JR]; rfl
   have hcond:∀ (Z:Option (Bool⊕(Int×Bool))),Z=((gf s 0).bind fun v2 =>
    cond ((v2==48))
     (some (.inl ((!(s.toList==(⟨#[48]⟩:KK).toList)))))
     (some (.inl false)))→Z=some (.inl ((ao s).head? == some 48&&decide (ao s≠[48]))):=by
    intro Z hZ
    rw [hZ]
    refine aX hc ?_
    rw [hh,hz]
    by_cases h48:(ao s).getD 0 0=48
    ·rw [h48]
     by_cases h1:ao s=[48]
     ·simp [h1]
     ·simp [h1]
    ·have e1:((ao s).getD 0 0==48)=false:=beq_eq_false_iff_ne.2 h48
     rw [e1]
     have e2:(some ((ao s).getD 0 0)==some (48:Int))=false:=beq_eq_false_iff_ne.2 fun h=>h48 (Option.some.inj h)
     rw [e2]; rfl
   have hfirst:=hcond _ rfl
   cases hq:((ao s).head? == some 48&&decide (ao s≠[48])) with
   | true =>
    rw [hq] at hfirst
    exact ⟨0,bw (s:=true) (au hE (aX (x:=9) rfl (au (decide_eq_false (by omega)) hfirst))) (aL rfl rfl)⟩
   | false =>
    rw [hq] at hfirst
    cases hd:(ao s).all Cv with
    | true =>
     obtain ⟨r,hr⟩:=zV s hne hd (by omega)
     have hlp:=zB s (by omega)
     rw [hd,if_pos rfl] at hlp
     exact ⟨r.1,bw (s:=false) (au hE (aX (x:=9) rfl (au (decide_eq_false (by omega)) hfirst))) (au rfl (bw hlp (aX hr rfl)))⟩
    | false =>
     have hlp:=zB s (by omega)
     rw [hd,if_neg (by simp)] at hlp
     exact ⟨0,bw (s:=false) (au hE (aX (x:=9) rfl (au (decide_eq_false (by omega)) hfirst))) (au rfl (DE hlp rfl))⟩
  ·rw [decide_eq_false hl]
   rw [aD] at hl
   exact ⟨0,bw (s:=true) (au hE (aX (x:=9) rfl (aL (decide_eq_true (by omega)) rfl))) (aL rfl rfl)⟩
set_option maxRecDepth 10000
def CI (l:List aq):Prop:=(∀ p∈l,p.KJ.size≤18)∧l.length≤700
theorem mi:CI []:=⟨fun p hp=>(by cases hp),Nat.zero_le _⟩
structure ny (c:bf):Prop where
 t:c.KH.size≤600
 l:c.KB.Ks.size≤600
 d:c.KB.Kg.size≤600
 p:CI c.KA
theorem Hs (s:KK):Tt (gm s 9) fun r=>r.2=true→s.size≤18:=by
 obtain ⟨n,h⟩:=Gj s
 refine ⟨_,h,fun h => ?_⟩
 replace h:Ew (ao s)=true:=h
 unfold Ew at h
 simp only [Bool.and_eq_true,decide_eq_true_eq,Bool.not_eq_true',aD] at h
 omega
theorem zf (s:KK) (w:List KK) (hs:s.size<4294967296) (hw:∀ x∈w,x.size≤18) (hl:w.length<1000):Tt (ja s w) fun r=>r.1.size≤18:=by
 unfold ja
 refine lX (tL (fun i:Int=>0≤i∧i≤((w.length:Nat):Int)) (fun i=>w.length-i.toNat) ⟨by omega,by omega⟩ (by simp only [dH]; omega) ?_) (fun _=>tS (Nat.zero_le _))
 rintro i ⟨h0,h1⟩
 refine tD (fun _=>kZ (by omega) (by omega) fun _ _ _=>tG (by omega) fun x hx=>tB (qT s x (by omega) (by have:=hw x hx; omega)) fun _ _=>tC (fun _=>kB (a:=Sum.inr (x,true)) (hw x hx)) fun _=>tW (by omega) (by omega) (bT ?_)) fun _=>kB (a:=Sum.inl ()) trivial
 omega
theorem Hu (k:Int) (key val:KK) (hv:val.size<4294967296):Tt (eK k key val) fun r=>r.2=true→r.1.KJ.size≤18:=by
 unfold eK
 have w:∀ a b:KK,a.size≤18→b.size≤18→∀ x∈[a,b],x.size≤18:=fun a b ha hb x hx=>by
  rcases List.mem_cons.1 hx with rfl | h
  ·exact ha
  ·rw [List.mem_singleton.1 h]; exact hb
 refine lX (tE (fun _=>bT trivial) fun _=>bT trivial) fun _=>tC (fun _=>tB (Hs val) fun r hr=>tS hr) fun _=>lX (tE (fun _=>bT trivial) fun _=>bT trivial) fun _=>tC (fun _=>tB (zf val _ hv (w _ _ (by decide) (by decide)) (by decide)) fun r hr=>tS fun _=>hr) fun _=>lX (tE (fun _=>bT trivial) fun _=>bT trivial) fun _=>tC (fun _=>tB (zf val _ hv (w _ _ (by decide) (by decide)) (by decide)) fun r hr=>tS fun _=>hr) fun _=>tS fun h=>by cases h
theorem Hc (l:List aq) (p:aq) (hl:l.length<1000000):Tt (aF l p) fun _=>True:=by
 unfold aF
 refine tB (P:=fun _=>True) ?_ fun _ _=>tS trivial
 unfold aP
 refine lX (tL (fun i:Int=>0≤i∧i≤((l.length:Nat):Int)) (fun i=>l.length-i.toNat) ⟨by omega,by omega⟩ (by simp only [dH]; omega) ?_) (fun _=>tS trivial)
 rintro i ⟨h0,h1⟩
 refine tD (fun _=>kZ (by omega) (by omega) fun _ _ _=>tG (by omega) fun x hx=>tQ rfl (tC (fun _=>kB (a:=Sum.inr i) trivial) fun _=>tW (by omega) (by omega) (bT ?_))) fun _=>kB (a:=Sum.inl ()) trivial
 omega
theorem Fe (k:Int) (s:KK) (hs:s.size≤600):Tt (ff k s) fun r=>CI r.1:=by
 unfold ff
 have nil:∀ p∈([]:List aq),p.KJ.size≤18:=fun p hp=>by cases hp
 refine tC (fun _=>tS mi) fun _=>tB (EM s _) fun a ha=>tC (fun _=>tS mi) fun _=>tQ (r:=(⟨#[32]⟩,a.1,0)) rfl ?_
 have key:=Fx (S:=List aq) (O:=List aq) 32 (by decide) (step:=fun (x:KK) (s46:(List aq)) =>
    (dx x (⟨#[61]⟩:KK)).bind fun v5 =>
    (dC v5.1).bind fun v6 =>
    (eK k v6 v5.2.1).bind fun v7 =>
    aA (S:=Bool) (A:=(((List aq))⊕((List aq))))
     (cond ((!v7.2))
      (some (.inl true))
      ((aF s46 v7.1).bind fun v8 =>
      some (.inl v8)))
     (fun (s53:Bool) =>
      cond (s53)
       (some (.inr s46))
       ((cq 32 s46 [v7.1]).bind fun v14 =>
       some (.inl v14))) some) (s:=a.1) (st:=[]) (fun n l=>l.length≤n∧∀ p∈l,p.KJ.size≤18) (J:=fun _=>True) (by omega) ⟨Nat.zero_le _,nil⟩ ?_
 ·exact tJ _ _ key (fun l hl=>by obtain ⟨m,hm,hl⟩:=hl; exact tS ⟨hl.2,by have:=hl.1; dsimp only; omega⟩) fun _ _=>tS mi
 ·intro x hx m l hm ⟨hl,hp⟩
  refine tB (yC (n:=61) (by decide) x (by omega)) fun c hc=>tB (qj c.1 (by omega)) fun f hf=>tB (Hu k f c.2.1 (by omega)) fun v hv => ?_
  refine BN (tC (fun _=>bT (tC (fun _=>kB trivial) fun h=>by cases h)) fun h2=>tB (Hc l v.1 (by omega)) fun b _=>bT (tC (fun _=>kB trivial) fun _=>tA (by rw [List.length_singleton]; omega) (by rw [List.length_singleton]; omega) fun r hr hrl=>bT ⟨by rw [List.length_singleton] at hrl; omega,fun p hp2 => ?_⟩))
  rw [hr] at hp2
  rcases List.mem_append.1 hp2 with h | h
  ·exact hp p h
  ·rw [List.mem_singleton.1 h]
   exact hv (by cases hb:v.2 <;> simp_all)
theorem Ho (s:KK) (hs:s.size<4294967296):Tt (ck s (⟨#[62]⟩:KK)) fun r => -1≤r∧r<(s.size:Int):=by
 refine ⟨_,pZ (n:=62) (by decide) s,?_⟩
 cases h:mS ((62:Nat):Int) (ao s) with
 | none=>exact ⟨Int.le_refl _,by show (-1:Int)<_; omega⟩
 | some e =>
  have:=(nK h).1
  rw [aD] at this
  exact ⟨by show (-1:Int)≤(e:Int); omega,by show (e:Int)<_; omega⟩
theorem Au (k:Int) (s:KK) (hs:s.size≤600):Tt (eG k s) fun r=>ny r.1:=by
 unfold eG
 have ho:Tt (iI k) fun r=>r.size<4294967296:=by
  unfold iI
  exact tE (fun _=>tS (by decide)) fun _=>tS (by decide)
 have z:∀ n:Nat,(⟨#[]⟩:KK).size≤n:=fun n=>Nat.zero_le _
 refine tB ho fun o ho=>tB (tp s o (by omega) ho) fun c hc=>tC (fun _=>tS ⟨z _,z _,z _,mi⟩) fun _=>tB (Ho c.1 (by omega)) fun e he=>tW (by omega) (by omega) (Hm (by omega) (by omega) (by omega) fun x hx=>tB (CZ x (by omega)) fun p hp => ?_)
 refine lX (tC (fun _=>bT trivial) fun _=>tE (fun _=>bT trivial) fun _=>bT trivial) fun _=>tC (fun _=>tS ⟨z _,z _,z _,mi⟩) fun _=>Hm (by omega) (by omega) (by omega) fun y hy=>tB (Fe k y (by omega)) fun l hl=>tS ⟨z _,by have:=hp.1; dsimp only; omega,by have:=hp.2; dsimp only; omega,hl⟩
theorem zQ (s:KK) (hs:s.size≤600):Tt (iK s) fun r=>ny r.1:=by
 unfold iK
 have z:∀ n:Nat,(⟨#[]⟩:KK).size≤n:=fun n=>Nat.zero_le _
 refine tB (yC (n:=32) (by decide) s (by omega)) fun c hc=>tB (wA s (by omega)) fun k _=>lX (tE (fun _=>bT trivial) fun _=>bT trivial) fun _=>tC (fun _=>tB (Au k s hs) fun r hr=>tS ⟨hr.t,hr.l,hr.d,hr.p⟩) fun _=>lX (tE (fun _=>bT trivial) fun _=>bT trivial) fun _ => ?_
 have h1:c.2.1.size≤600:=by omega
 have hk:∀ t:KK,t.size≤600→ny (bf.mk k t ((T_Path.mk false (⟨#[]⟩:KK) (⟨#[]⟩:KK))) []):=fun t ht=>⟨ht,z _,z _,mi⟩
 refine tC (fun _=>tB (rC c.2.1 (by omega)) fun _ _=>tS (hk _ h1)) fun _=>tE (fun _=>tS (hk _ h1)) fun _=>tE (fun _=>lX (tC (fun _=>bT trivial) fun _=>tB (rC c.2.1 (by omega)) fun _ _=>bT trivial) fun _=>tS (hk _ h1)) fun _=>tE (fun _=>tB (qT c.2.1 _ (by omega) (by decide)) fun _ _=>tS (hk _ (z _))) fun _=>tE (fun _=>tS (hk _ (z _))) fun _=>tS (hk _ (z _))
theorem CD (s:KK) (hs:s.size<4294967296):Tt (kb s) fun r=>ny r.1:=by
 unfold kb
 have z:∀ n:Nat,(⟨#[]⟩:KK).size≤n:=fun n=>Nat.zero_le _
 have h0:ny (bf.mk 0 (⟨#[]⟩:KK) ((T_Path.mk false (⟨#[]⟩:KK) (⟨#[]⟩:KK))) []):=⟨z _,z _,z _,mi⟩
 refine lR (fun b=>b=false→s.size≤510) (tD (fun _=>bT fun h=>by cases h) fun h=>tB (vL s (by omega)) fun _ _=>tC (fun _=>bT fun h=>by cases h) fun _=>tB (wA s hs) fun _ _=>bT fun _=>by omega) fun b hb=>tC (fun _=>tS h0) fun hf => ?_
 have:=hb hf
 exact tB (Ek s hs) fun _ _=>tC (fun _=>tS h0) fun _=>tB (zQ s (by omega)) fun r hr=>tC (fun _=>tS h0) fun _=>tS ⟨hr.t,hr.l,hr.d,hr.p⟩
theorem yT (c:bf) (key:KK) (hc:ny c):Tt (je c key) fun r=>r.1.size≤18:=by
 have hp:=hc.p.1
 have hl:=hc.p.2
 unfold je
 refine lX (tL (fun i:Int=>0≤i∧i≤((c.KA.length:Nat):Int)) (fun i=>c.KA.length-i.toNat) ⟨by omega,by omega⟩ (by simp only [dH]; omega) ?_) (fun _=>tS (Nat.zero_le _))
 rintro i ⟨h0,h1⟩
 refine tD (fun _=>kZ (by omega) (by omega) fun _ _ _=>tG (by omega) fun x hx=>tC (fun _=>kB (a:=Sum.inr (x.KJ,true)) (hp x hx)) fun _=>tW (by omega) (by omega) (bT ?_)) fun _=>kB (a:=Sum.inl ()) trivial
 omega
theorem Ev (s:KK) (h:s.size≤18):Tt (fk s) fun _=>True:=by
 unfold fk
 rw [if_pos h]
 exact tS trivial
set_option maxRecDepth 10000
theorem EQ {B:Type} {f:Int→Option B} {Q:B→Prop} {k:IntKind} {a b:Int} (hb:0≤b) (h:∀ r,Tt (f r) Q):Tt ((mw k a b).bind f) Q:=by
 unfold mw
 rw [if_pos hb]
 exact h _
theorem un {l:List Int} {k:Nat} {x:Int} (h:dv l) (h0:0≤x) (h1:x<256):dv (l.set k x):=fun y hy=>by
 rcases List.mem_or_eq_of_mem_set hy with h2 | h2
 ·exact h y h2
 ·rw [h2]; exact ⟨h0,h1⟩
theorem lO {l:List Int} {x:Int} (h:dv l) (h0:0≤x) (h1:x<256):dv (l++[x]):=kE h fun y hy=>by rw [List.mem_singleton.1 hy]; exact ⟨h0,h1⟩
theorem qR (n:Nat):dv (List.replicate n (0:Int)):=fun x hx=>by rw [(List.mem_replicate.1 hx).2]; decide
theorem zm {l m:List Int} (h:dv l) (hs:∀ x∈m,x∈l):dv m:=fun x hx=>h x (hs x hx)
theorem si {l m:List Int}:(kM l m).length=l.length:=by
 unfold kM
 rw [List.length_append,List.length_take,List.length_drop]; omega
theorem sA {l m:List Int} (h:dv l) (k:dv m):dv (kM l m):=kE (lz k _) (fV h _)
theorem DV (i q p t:Int) (h0:0≤i) (h1:i<64):Tt (jx i q p t) fun r=>0≤r.2∧r.2<16:=by
 unfold jx
 repeat' with_reducible first | exact trivial | refine CR (by omega) (by omega) (by omega) (fun _ _ _ _ => ?_) | refine xl (by omega) (by omega) (fun _ _ _ _ => ?_) | refine sU (fun _ _ _ => ?_) | refine tW (by omega) (by omega) ?_ | refine Ce (by omega) (by omega) (fun _ _ _ => ?_) | refine kZ (by omega) (by omega) (fun _ _ _ => ?_) | refine tG (by omega) (fun _ _ => ?_) | refine tD (fun _ => ?_) (fun _ => ?_) | refine tE (fun _ => ?_) (fun _ => ?_) | refine tN (fun _ => ?_) (fun _ => ?_) | refine tC (fun _ => ?_) (fun _ => ?_) | refine bT ?_ | refine kB ?_ | refine BN ?_ | refine tV ?_ | refine tS ?_
 all_goals first | exact trivial | omega | (dsimp only; omega)
theorem wI:∀ x∈dO,0≤x∧x≤32:=by decide
theorem Hw {B:Type} {f:Int→Option B} {Q:B→Prop} {k:Nat} (h0:k<16) (h:∀ r,0≤r→r≤32→Tt (f r) Q):Tt ((bQ dO k).bind f) Q:=tG (l:=dO) h0 fun x hx=>h x (wI x hx).1 (wI x hx).2
theorem zy (s b:List Int) (hs:s.length=4) (hb:b.length=64):Tt (cT s b) fun r=>r.length=4:=by
 have hS:cZ.length=64:=rfl
 unfold cT
 refine lR (fun l:List Int=>l.length=16) (tL (fun x:List Int×Int=>x.1.length=16∧0≤x.2∧x.2≤64) (fun x=>64-x.2.toNat) ⟨rfl,by decide,by decide⟩ (by simp only [dH]; omega) ?_) fun l hl => ?_
 ·rintro ⟨l,i⟩ ⟨h1,h2,h3⟩
  dsimp only at h1 h2 h3 ⊢
  repeat' with_reducible first | exact trivial | refine CR (by omega) (by omega) (by omega) (fun _ _ _ _ => ?_) | refine xl (by omega) (by omega) (fun _ _ _ _ => ?_) | refine sU (fun _ _ _ => ?_) | refine xR (fun _ _ _ => ?_) | refine uI (by omega) (fun _ _ _ => ?_) | refine IG (by omega) ?_ | refine tW (by omega) (by omega) ?_ | refine Ce (by omega) (by omega) (fun _ _ _ => ?_) | refine kZ (by omega) (by omega) (fun _ _ _ => ?_) | refine tG (by omega) (fun _ _ => ?_) | refine tD (fun _ => ?_) (fun _ => ?_) | refine tE (fun _ => ?_) (fun _ => ?_) | refine tN (fun _ => ?_) (fun _ => ?_) | refine tC (fun _ => ?_) (fun _ => ?_) | refine bT ?_ | refine kB ?_ | refine BN ?_ | refine tV ?_ | refine tS ?_
  all_goals first | exact h1 | (simp only [List.length_set]; omega)
 ·refine kZ (by omega) (by omega) fun _ _ _=>tG (by omega) fun _ _=>kZ (by omega) (by omega) fun _ _ _=>tG (by omega) fun _ _=>kZ (by omega) (by omega) fun _ _ _=>tG (by omega) fun _ _=>kZ (by omega) (by omega) fun _ _ _=>tG (by omega) fun _ _ => ?_
  refine lX (tL (fun x:Int×Int×Int×Int×Int=>0≤x.2.2.2.2∧x.2.2.2.2≤64) (fun x=>64-x.2.2.2.2.toNat) ⟨by dsimp only; omega,by dsimp only; omega⟩ (by simp only [dH]; omega) ?_) fun s => ?_
  ·rintro ⟨a,b,c,d,i⟩ ⟨h2,h3⟩
   dsimp only at h2 h3 ⊢
   repeat' with_reducible first | exact trivial | refine CR (by omega) (by omega) (by omega) (fun _ _ _ _ => ?_) | refine xl (by omega) (by omega) (fun _ _ _ _ => ?_) | refine sU (fun _ _ _ => ?_) | refine xR (fun _ _ _ => ?_) | refine uI (by omega) (fun _ _ _ => ?_) | refine Cf (by omega) (by omega) (fun _ _ _ => ?_) | refine Hw (by omega) (fun _ _ _ => ?_) | refine tB (DV _ _ _ _ (by omega) (by omega)) (fun _ _ => ?_) | refine tW (by omega) (by omega) ?_ | refine Ce (by omega) (by omega) (fun _ _ _ => ?_) | refine kZ (by omega) (by omega) (fun _ _ _ => ?_) | refine tG (by omega) (fun _ _ => ?_) | refine tD (fun _ => ?_) (fun _ => ?_) | refine tE (fun _ => ?_) (fun _ => ?_) | refine tN (fun _ => ?_) (fun _ => ?_) | refine tC (fun _ => ?_) (fun _ => ?_) | refine bT ?_ | refine kB ?_ | refine BN ?_ | refine tV ?_ | refine tS ?_
   all_goals first | exact trivial | omega | (dsimp only; omega)
  ·repeat' with_reducible first | exact trivial | refine xR (fun _ _ _ => ?_) | refine tW (by omega) (by omega) ?_ | refine Ce (by omega) (by omega) (fun _ _ _ => ?_) | refine kZ (by omega) (by omega) (fun _ _ _ => ?_) | refine tG (by omega) (fun _ _ => ?_) | refine tD (fun _ => ?_) (fun _ => ?_) | refine tE (fun _ => ?_) (fun _ => ?_) | refine tN (fun _ => ?_) (fun _ => ?_) | refine tC (fun _ => ?_) (fun _ => ?_) | refine bT ?_ | refine kB ?_ | refine BN ?_ | refine tV ?_
   exact mE rfl (mE rfl (mE rfl (tS rfl)))
theorem Cy (l:List Int) (n:Int) (hl:l.length<64) (hb:dv l):Tt (gK l n) fun r=>(r.length=64∨r.length=128)∧dv r:=by
 unfold gK
 refine lR (fun k:Int=>(k=64∨k=128)∧(l.length:Int)+9≤k) (tW (by omega) (by omega) (tW (by omega) (by omega) (tD (fun _=>bT (by omega)) fun _=>bT (by omega)))) fun k hk=>JW (by omega) (by omega) (tV ?_)
 have hc:(kM (List.replicate k.toNat (0:Int)) l).length=k.toNat:=by rw [si,List.length_replicate]
 have hcb:=sA (qR k.toNat) hb
 generalize kM (List.replicate k.toNat (0:Int)) l=v at *
 refine kZ (by omega) (by omega) fun j _ hj=>tV (GS fun _ _ _=>FB (by omega) fun z _ _ => ?_)
 refine lR (fun r:List Int=>r.length=k.toNat∧dv r) (tL (fun x:List Int×Int=>(x.1.length=k.toNat∧dv x.1)∧0≤x.2∧x.2≤8) (fun x=>8-x.2.toNat) ⟨⟨by rw [List.length_set]; exact hc,un hcb (by decide) (by decide)⟩,by dsimp only; omega,by dsimp only; omega⟩ (by simp only [dH]; omega) ?_) fun r hr=>tS ⟨by omega,hr.2⟩
 rintro ⟨r,i⟩ ⟨⟨h1,hb2⟩,h2,h3⟩
 dsimp only at h1 h2 h3 hb2 ⊢
 refine tD (fun _=>tW (by omega) (by omega) (tW (by omega) (by omega) (tW (by omega) (by omega) (EQ (by omega) fun _=>ID fun x hx hx2=>kZ (by omega) (by omega) fun _ _ _=>tV (tW (by omega) (by omega) (bT ⟨⟨⟨by rw [List.length_set]; exact h1,un hb2 hx hx2⟩,by dsimp only; omega,by dsimp only; omega⟩,by dsimp only; omega⟩)))))) fun _=>kB (a:=Sum.inl r) ⟨h1,hb2⟩
theorem Cw (b:List Int) (hl:b.length<4294967296) (hb:dv b):Tt (gQ b) fun r=>r.length=16∧dv r:=by
 unfold gQ
 refine mE rfl (mE rfl (CR (by omega) (by omega) (by omega) fun q hq _ _=>tW (by omega) (by omega) ?_))
 refine lR (fun s:List Int=>s.length=4) (tL (fun x:List Int×Int=>x.1.length=4∧0≤x.2∧x.2≤q * 64∧x.2 % 64=0) (fun x=>b.length-x.2.toNat) ⟨rfl,by decide,by dsimp only; omega,by decide⟩ (by simp only [dH]; omega) ?_) fun s hs => ?_
 ·rintro ⟨s,i⟩ ⟨h1,h2,h3,h4⟩
  dsimp only at h1 h2 h3 h4 ⊢
  refine tD (fun _=>mE h1 (tW (by omega) (by omega) (Gz (by omega) (by omega) (by omega) fun r hr _=>tB (zy s r h1 (by omega)) fun v hv=>mE h1 (mE hv (tW (by omega) (by omega) (bT ⟨⟨hv,by dsimp only; omega,by dsimp only; omega,by dsimp only; omega⟩,by dsimp only; omega⟩)))))) fun _=>kB (a:=Sum.inl s) h1
 ·refine Gz (by omega) (by omega) (by omega) fun r hr hm=>tB (Cy r _ (by omega) (zm hb hm)) fun p hp => ?_
  refine lR (fun s:List Int=>s.length=4) (tL (fun x:List Int×List Int×Int=>x.1.length=4∧x.2.1.length=p.length∧0≤x.2.2∧x.2.2≤p.length∧x.2.2 % 64=0) (fun x=>200-x.2.2.toNat) ⟨hs,rfl,by dsimp only; omega,by dsimp only; omega,by dsimp only; omega⟩ (by simp only [dH]; omega) ?_) fun s hs => ?_
  ·rintro ⟨s,v,i⟩ ⟨h1,h5,h2,h3,h4⟩
   dsimp only at h1 h2 h3 h4 h5 ⊢
   refine tD (fun _=>mE h1 (tW (by omega) (by omega) (Gz (by omega) (by omega) (by omega) fun r hr _=>tB (zy s r h1 (by omega)) fun w hw=>mE h1 (mE hw (tW (by omega) (by omega) (bT ⟨⟨hw,h5,by dsimp only; omega,by dsimp only; omega,by dsimp only; omega⟩,by dsimp only; omega⟩)))))) fun _=>kB (a:=Sum.inl s) h1
  ·refine lR (fun r:List Int=>r.length=16∧dv r) (tL (fun x:List Int×Int=>(x.1.length=16∧dv x.1)∧0≤x.2∧x.2≤16) (fun x=>16-x.2.toNat) ⟨⟨rfl,qR 16⟩,by decide,by decide⟩ (by simp only [dH]; omega) ?_) fun r hr=>mE hr.1 (mE rfl (mE hr.1 (mE hr.1 (tS hr))))
   rintro ⟨r,i⟩ ⟨⟨h1,hb2⟩,h2,h3⟩
   dsimp only at h1 h2 h3 hb2 ⊢
   refine tD (fun _=>CR (by omega) (by omega) (by omega) fun _ _ _ _=>kZ (by omega) (by omega) fun _ _ _=>tG (by omega) fun _ _=>xl (by omega) (by omega) fun _ _ _ _=>tW (by omega) (by omega) (EQ (by omega) fun _=>ID fun x hx hx2=>kZ (by omega) (by omega) fun _ _ _=>IG (by omega) (tW (by omega) (by omega) (bT ⟨⟨⟨by rw [List.length_set]; exact h1,un hb2 hx hx2⟩,by dsimp only; omega,by dsimp only; omega⟩,by dsimp only; omega⟩)))) fun _=>kB (a:=Sum.inl r) ⟨h1,hb2⟩
theorem DR (k t:List Int) (hk:dv k) (ht:dv t) (hkl:k.length<1000000) (htl:t.length<1000000):Tt (iR k t) fun r=>r.length=16∧dv r:=by
 unfold iR
 refine lR (fun v:List Int=>v.length=64∧dv v) (tD (fun _=>tB (Cw k (by omega) hk) fun v hv=>mE rfl (mE hv.1 (mE hv.1 (mE rfl (bT ⟨by rw [si]; rfl,sA (qR 64) hv.2⟩))))) fun _=>mE rfl (bT ⟨by rw [si]; rfl,sA (qR 64) hk⟩)) fun v hv=>tW (by omega) (by omega) (JM (by omega) (by omega) (JM (by omega) (by decide) (mE hv.1 ?_)))
 refine lR (fun x:List Int×List Int=>(dv x.1∧dv x.2)∧x.1.length=64∧x.2.length=64) (tL (fun x:List Int×List Int×Int=>(dv x.1∧dv x.2.1)∧(x.1.length:Int)=x.2.2∧(x.2.1.length:Int)=x.2.2∧0≤x.2.2∧x.2.2≤64) (fun x=>64-x.2.2.toNat) ⟨⟨fun x hx=>(by cases hx),fun x hx=>(by cases hx)⟩,rfl,rfl,by decide,by decide⟩ (by simp only [dH]; omega) ?_) ?_
 ·rintro ⟨a,b,i⟩ ⟨⟨ha,hb⟩,h1,h2,h3,h4⟩
  dsimp only at ha hb h1 h2 h3 h4 ⊢
  have hv1:=hv.1
  refine tD (fun _=>kZ (by omega) (by omega) fun _ _ _=>tG (by omega) fun _ _=>JL fun x hx hx2=>tA (by rw [List.length_singleton]; omega) (by rw [List.length_singleton]; omega) fun a' ea la=>JL fun y hy hy2=>tA (by rw [List.length_singleton]; omega) (by rw [List.length_singleton]; omega) fun b' eb lb=>tW (by omega) (by omega) (bT ?_)) fun _=>kB (a:=Sum.inl (a,b)) ⟨⟨ha,hb⟩,by dsimp only; omega,by dsimp only; omega⟩
  rw [List.length_singleton] at la lb
  exact ⟨⟨⟨by rw [ea]; exact lO ha hx hx2,by rw [eb]; exact lO hb hy hy2⟩,by dsimp only; omega,by dsimp only; omega,by dsimp only; omega,by dsimp only; omega⟩,by dsimp only; omega⟩
 ·rintro ⟨a,b⟩ ⟨⟨ha,hb⟩,h1,h2⟩
  dsimp only at ha hb h1 h2 ⊢
  refine tA (by omega) (by omega) fun c hc lc=>tB (Cw c (by omega) (by rw [hc]; exact kE ha ht)) fun d hd=>mE rfl (mE hd.1 (mE hd.1 (tA (by have:=hd.1; omega) (by have:=hd.1; omega) fun e he le=>tB (Cw e (by have:=hd.1; omega) (by rw [he]; exact kE hb hd.2)) fun r hr=>mE rfl (mE hr.1 (mE hr.1 (tS hr))))))
set_option maxRecDepth 10000
theorem Ia (c:Int) (h0:0≤c) (h1:c≤3):Tt (strings_Repeat (⟨#[61]⟩:KK) c) fun r=>r.size≤3:=by
 rcases (by omega:c=0∨c=1∨c=2∨c=3) with h | h | h | h
 ·subst h; exact ⟨_,rfl,by decide⟩
 ·subst h; exact ⟨_,rfl,by decide⟩
 ·subst h; exact ⟨_,rfl,by decide⟩
 ·subst h; exact ⟨_,rfl,by decide⟩
theorem wX (b:List Int) (hb:dv b) (hl:b.length<4294967296):Tt (fP b) fun _=>True:=by
 unfold fP
 refine lR (fun l:List Int=>dv l) (tL (fun x:List Int×Int=>dv x.1∧(x.1.length:Int)≤4 * x.2∧0≤x.2∧x.2≤(b.length:Int)+2) (fun x=>b.length+3-x.2.toNat) ⟨fun x hx=>(by cases hx),by simp,by dsimp only; omega,by dsimp only; omega⟩ (by simp only [dH]; omega) ?_) fun l hl=>JH hl fun _ _=>tS trivial
 rintro ⟨o,i⟩ ⟨ho,h1,h2,h3⟩
 dsimp only at ho h1 h2 h3 ⊢
 refine tD (fun hi=>tW (by omega) (by omega) (tV ?_)) fun _=>kB (a:=Sum.inl o) ho
 obtain ⟨n,hn⟩:∃ n,n=if (b.length:Int)-i<3 then (b.length:Int)-i else 3:=⟨_,rfl⟩
 rw [← hn]
 have hn0:0<n∧n≤3∧n≤(b.length:Int)-i:=by rw [hn]; split <;> omega
 refine tW (by omega) (by omega) (Gz (by omega) (by omega) (by omega) fun s hs _ => ?_)
 refine lR (fun a:Int=>0≤a) (tL (fun x:Int×Int=>0≤x.1∧0≤x.2∧x.2≤s.length) (fun x=>s.length-x.2.toNat) ⟨by decide,by decide,by dsimp only; omega⟩ (by simp only [dH]; omega) ?_) fun a ha=>tW (by omega) (by omega) ?_
 ·rintro ⟨a,j⟩ ⟨k1,k2,k3⟩
  dsimp only at k1 k2 k3 ⊢
  exact tD (fun _=>kZ (by omega) (by omega) fun _ _ _=>tG (by omega) fun _ _=>xR fun _ _ _=>tW (by omega) (by omega) (tW (by omega) (by omega) (uI (by omega) fun _ _ _=>sU fun _ _ _=>tW (by omega) (by omega) (bT ⟨⟨by dsimp only; omega,by dsimp only; omega,by dsimp only; omega⟩,by dsimp only; omega⟩)))) fun _=>kB (a:=Sum.inl a) k1
 ·refine lR (fun l:List Int=>dv l∧(l.length:Int)≤4 * i+n+1) (tL (fun x:List Int×Int=>(dv x.1∧(x.1.length:Int)≤4 * i+x.2)∧0≤x.2∧x.2≤n+1) (fun x=>(n+1).toNat-x.2.toNat) ⟨⟨ho,by dsimp only; omega⟩,by dsimp only; omega,by dsimp only; omega⟩ (by simp only [dH]; omega) ?_) fun l hl=>tW (by omega) (by omega) (tB (Ia _ (by omega) (by omega)) fun p hp => ?_)
  ·rintro ⟨l,k⟩ ⟨⟨k1,k2⟩,k3,k4⟩
   dsimp only at k1 k2 k3 k4 ⊢
   refine tD (fun _=>tW (by omega) (by omega) (tW (by omega) (by omega) (Cf (by omega) (by omega) fun _ _ _=>FG (by omega) (by omega) fun _ _ _=>Ce (by omega) (by show _<(64:Int); omega) fun x hx hx2=>tA (by rw [List.length_singleton]; omega) (by rw [List.length_singleton]; omega) fun r hr lr=>tW (by omega) (by omega) (bT ?_)))) fun _=>kB (a:=Sum.inl l) ⟨k1,by omega⟩
   rw [List.length_singleton] at lr
   exact ⟨⟨⟨by rw [hr]; exact lO k1 hx hx2,by dsimp only; omega⟩,by dsimp only; omega,by dsimp only; omega⟩,by dsimp only; omega⟩
  ·have hp2:=aD p
   have hl2:=hl.2
   refine tA (by omega) (by omega) fun r hr lr=>tW (by omega) (by omega) (bT ⟨⟨by rw [hr]; exact kE hl.1 (cG p),?_,by dsimp only; omega,by dsimp only; omega⟩,by dsimp only; omega⟩)
   dsimp only
   omega
theorem Ie (b:List Int) (hb:dv b) (hl:b.length<4294967296):Tt (mO b) fun r=>r.size≤2 * b.length:=by
 unfold mO
 refine lR (fun l:List Int=>dv l∧l.length≤2 * b.length) (tL (fun x:List Int×Int=>dv x.1∧(x.1.length:Int)≤2 * x.2∧0≤x.2∧x.2≤(b.length:Int)) (fun x=>b.length-x.2.toNat) ⟨fun x hx=>(by cases hx),by simp,by dsimp only; omega,by dsimp only; omega⟩ (by simp only [dH]; omega) ?_) fun l hl=>JH hl.1 fun r hr=>tS (by have:=hl.2; omega)
 rintro ⟨o,i⟩ ⟨ho,h1,h2,h3⟩
 dsimp only at ho h1 h2 h3 ⊢
 refine tD (fun hi=>kZ (by omega) (by omega) fun _ _ _=>tG (by omega) fun x hx=>GY (hb x hx).1 (hb x hx).2 fun _ _ _=>Ce (by omega) (by show _<(16:Int); omega) fun y hy hy2=>tA (by rw [List.length_singleton]; omega) (by rw [List.length_singleton]; omega) fun r hr lr=>GJ (by omega) (by omega) fun _ _ _=>Ce (by omega) (by show _<(16:Int); omega) fun z hz hz2=>tA (by rw [List.length_singleton] at lr ⊢; omega) (by rw [List.length_singleton] at lr ⊢; omega) fun q hq lq=>tW (by omega) (by omega) (bT ?_)) fun _=>kB (a:=Sum.inl o) ⟨ho,by omega⟩
 rw [List.length_singleton] at lr lq
 exact ⟨⟨by rw [hq,hr]; exact lO (lO ho hy hy2) hz hz2,by dsimp only; omega,by dsimp only; omega,by dsimp only; omega⟩,by dsimp only; omega⟩
theorem Bu (u s c l:KK) (hu:u.size<100000) (hs:s.size<100000) (hc:c.size<100000):Tt (jr u s c l) fun _=>True:=by
 unfold jr
 refine tB (P:=fun _=>True) ?_ fun _ _=>tS trivial
 unfold kC
 refine tV (tV (tB (DR _ _ (cG s) (cG c) (by rw [aD]; omega) (by rw [aD]; omega)) fun k hk=>mE rfl (mE hk.1 (vD (by show u.size+1≤_; omega) fun a ha=>mE hk.1 (tB (Ie k hk.2 (by have:=hk.1; omega)) fun h hh=>vD (by have:=hk.1; have:a.size=u.size+1:=ha; omega) fun d hd=>tV (tB (wX _ (cG d) (by have:=hk.1; have:a.size=u.size+1:=ha; rw [aD]; omega)) fun _ _=>tS trivial))))))
theorem EL (s:aa) (code:Int) (hc:s.Kk.Ke.size<4294967296):Tt (bU s code) fun r=>r.Kr.length≤1:=by
 unfold bU
 refine lX (tE (fun _=>tV (tB (wX _ (cG _) (by rw [aD]; exact hc)) fun _ _=>bT trivial)) fun _=>tB (P:=fun _=>True) ?_ fun _ _=>tC (fun _=>bT trivial) fun _=>bT trivial) fun _=>tS (Nat.le_refl 1)
 unfold fU
 exact lX (tD (fun _=>bT trivial) fun _=>bT trivial) fun _=>tS trivial
set_option maxRecDepth 10000
theorem pL:∀ a b:List (List Int),gz (a++b)=gz a+gz b
 | [],b=>by simp [gz]
 | x::a,b=>by simp only [List.cons_append,gz,pL a b]; omega
theorem Jm:ao (⟨#[46]⟩:KK)=[46]:=rfl
def qq:List Int→Int→Option (Int⊕Int):=fun (x:(List Int)) (s8:Int) =>
 (some (dw x)).bind fun v2 =>
 cond ((v2.toList==(⟨#[46]⟩:KK).toList))
  (some (.inr s8))
  ((some (IntKind.i64.wrap ((x.length:Int)+2))).bind fun v4 =>
  (some (IntKind.i64.wrap (s8+v4))).bind fun v5 =>
  some (.inl v5))
theorem Dw {x:List Int} (hb:dv x):((dw x).toList==(⟨#[46]⟩:KK).toList)=decide (x=[46]):=by
 rw [jf]
 refine decide_eq_decide.2 ⟨fun h => ?_,fun h=>by rw [h]; rfl⟩
 have:=congrArg ao h
 rw [fQ hb,Jm] at this
 exact this
theorem DK {x:List Int} {s:Nat} (hb:dv x) (h:x≠[46]) (hl:s+x.length<4611686018427387904):qq x (s:Int)=some (.inl ((s+(x.length+2):Nat):Int)):=by
 unfold qq
 refine aX rfl ?_
 rw [Dw hb]
 refine au (decide_eq_false h) (aX (ol (by omega) (by omega)) (aX (ol (by omega) (by omega)) ?_))
 simp
theorem Br (s:Int):qq [46] s=some (.inr s):=by
 unfold qq
 refine aX rfl ?_
 rw [Dw (by decide)]
 exact aL rfl rfl
theorem rG:∀ (ls ms:List (List Int)) (s:Nat),(∀ l∈ls,dv l∧l≠[46])→s+gz ls<4611686018427387904→kx qq (ls++ms) (s:Int)=kx qq ms ((s+gz ls:Nat):Int)
 | [],ms,s,_,_=>by simp [gz]
 | l::ls,ms,s,hb,hs=>by
  simp only [gz] at hs
  rw [List.cons_append]
  conv=>lhs; unfold kx
  rw [DK (hb l (by simp)).1 (hb l (by simp)).2 (by omega)]
  refine (rG ls ms _ (fun m hm=>hb m (by simp [hm])) (by omega)).trans ?_
  simp only [gz]
  rw [show s+(l.length+2)+gz ls=s+(l.length+2+gz ls) by omega]
theorem Ah {b:List Int} {ls:List (List Int)} {r:List Int} (H:qW b ls r) (hb:dv b) (hd:∀ l∈ls,l≠[46]) (hl:b.length<4000000000):dy b=some (0,false):=by
 have hj:=lJ H
 have ht:b.length=gz ls+r.length:=by rw [hj,List.length_append,kV]
 unfold dy cU
 refine aX rfl ?_
 refine bw (s:=((0+gz ls:Nat):Int)) (fT qq H hb (by omega) _ _ ?_) rfl
 have:=rG ls [] 0 (fun l hl=>⟨lE H hb l hl,hd l hl⟩) (by omega)
 simpa [kx] using this
theorem xI {b:List Int} (h:dy b=some (0,false)):eO b=some ([],0,9):=by
 unfold eO
 exact aX h (aL rfl rfl)
def uX:List Int→List (List Int)→Option (List (List Int)⊕Unit):=fun (x:(List Int)) (s7:(List (List Int))) =>
 (cq 1 ([]:List Int) x).bind fun v2 =>
 (cq 24 s7 [v2]).bind fun v3 =>
 some (.inl v3)
theorem tk:∀ (ls s:List (List Int)),s.length * 24+gz ls * 24<140737488355328→kx uX ls s=some (.inl (s++ls))
 | [],s,_=>by simp [kx]
 | l::ls,s,hs=>by
  simp only [gz] at hs
  have e:uX l s=some (.inl (s++[l])):=by
   unfold uX
   refine aX (x:=l) (by rw [jE (by simp; omega) (by simp; omega)]; rfl) (aX (jE (by simp; omega) (by simp; omega)) rfl)
  simp only [kx]
  rw [e]
  refine (tk ls _ (by simp only [List.length_append,List.length_cons,List.length_nil]; omega)).trans ?_
  simp
theorem DI {b:List Int} {ls:List (List Int)} {r:List Int} (H:qW b ls r) (hb:dv b) (hl:b.length<4000000000):jU b=some ls:=by
 have hj:=lJ H
 have ht:b.length=gz ls+r.length:=by rw [hj,List.length_append,kV]
 unfold jU cU
 refine aX rfl ?_
 refine bw (s:=ls) (fT uX H hb (by omega) _ _ ?_) rfl
 have:=tk ls [] (by simp; omega)
 simpa using this
def xn (l:List Int):Bool:=decide (l=[46,13,10])||decide (5≤l.length∧l.drop (l.length-5)=[13,10,46,13,10])
theorem vA {a:List Int} (h:dv a) (s:KK):((dw a).toList==s.toList)=decide (a=ao s):=by
 rw [jf,Bool.eq_iff_iff,decide_eq_true_eq,decide_eq_true_eq,ka,fQ h]
theorem zE {l:List Int} (h:dv l) (hl:l.length<1000000):eX l [13,10,46,13,10]=some (decide (5≤l.length∧l.drop (l.length-5)=[13,10,46,13,10])):=by
 unfold eX
 by_cases h5:5≤l.length
 ·refine bw (s:=decide (5≤l.length∧l.drop (l.length-5)=[13,10,46,13,10])) (aL (decide_eq_true (by show ((5:Nat):Int)≤(l.length:Int); omega)) (aX (x:=((l.length-5:Nat):Int)) ?_ (aX (x:=l.drop (l.length-5)) ?_ (aX (x:=decide (l.drop (l.length-5)=[13,10,46,13,10])) ?_ ?_)))) rfl
  ·show some (IntKind.i64.wrap ((l.length:Int)-((5:Nat):Int)))=_
   rw [eB (by omega) (by omega)]; congr 1; omega
  ·rw [mj l (by omega) (Nat.le_refl _),List.take_of_length_le (by rw [List.length_drop]; omega)]
  ·unfold gW
   refine aX rfl (aX rfl (congrArg some ?_))
   rw [vA (fV h _)]; rfl
  ·congr 2
   rw [Bool.eq_iff_iff,decide_eq_true_eq,decide_eq_true_eq]
   exact ⟨fun e=>⟨h5,e⟩,fun e=>e.2⟩
 ·refine bw (s:=false) (au (decide_eq_false (by show ¬ ((5:Nat):Int)≤(l.length:Int); omega)) rfl) ?_
  rw [decide_eq_false (fun e=>h5 e.1)]
set_option maxRecDepth 10000
theorem zt:∀ (k u:Nat),u≤k→Lib.nDigits u≤u+1
 | 0,u,h=>by
  rw [Lib.nDigits_small (by omega)]; omega
 | k+1,u,h=>by
  by_cases h9:u<10
  ·rw [Lib.nDigits_small h9]; omega
  ·rw [Lib.nDigits_big h9]
   have:=zt k (u / 10) (by omega)
   omega
theorem BK (n:Int) (h0:0≤n) (h1:n<4611686018427387904):Tt (strconv_Itoa n) fun r=>(r.size:Int)≤n+1:=by
 unfold strconv_Itoa
 rw [if_pos (by omega)]
 refine tS ?_
 have e:Lib.itoa n=Lib.decDigits n.toNat:=by unfold Lib.itoa; rw [if_neg (by omega)]
 have h2:(⟨(Lib.itoa n).toArray⟩:KK).size=(Lib.itoa n).length:=by simp [ByteArray.size]
 have h3:=zt n.toNat n.toNat (Nat.le_refl _)
 rw [h2,e,Lib.decDigits_length]
 omega
theorem Ca {O:Type} {step:List Int→List Int→Option (List Int⊕O)} (I:List Int→Prop) {J:O→Prop} (B:Nat):∀ (ls:List (List Int)) (s:List Int),s.length+2 * gz ls≤B→(∀ x∈ls,∀ s,s.length+2 * (x.length+2)≤B→I s→Tt (step x s) (Sum.elim (fun s'=>I s'∧s'.length≤s.length+2 * (x.length+2)) J))→I s→Tt (kx step ls s) (Sum.elim (fun s'=>I s'∧s'.length≤s.length+2 * gz ls) J)
 | [],s,hB,_,h=>bT ⟨h,by omega⟩
 | x::ls,s,hB,hs,h=>by
  have ht:gz (x::ls)=x.length+2+gz ls:=rfl
  rw [ht] at hB
  obtain ⟨r,h1,h2⟩:=hs x List.mem_cons_self s (by omega) h
  unfold kx
  rw [h1]
  cases r with
  | inl s' =>
   have h3:s'.length≤s.length+2 * (x.length+2):=h2.2
   obtain ⟨r,k1,k2⟩:=Ca I B ls s' (by omega) (fun y hy=>hs y (List.mem_cons_of_mem _ hy)) h2.1
   refine ⟨r,k1,?_⟩
   cases r with
   | inl s2=>exact ⟨k2.1,by have:s2.length≤s'.length+2 * gz ls:=k2.2; rw [ht]; omega⟩
   | inr o=>exact k2
  | inr o=>exact kB h2
theorem By {S O:Type} {step:List Int→S→Option (S⊕O)} {b:List Int} {ls:List (List Int)} {rest:List Int} (H:qW b ls rest) (hb:dv b) (hl:b.length<4294967281) {st:S} {Q:S⊕O→Prop} (h:Tt (kx step ls st) Q):Tt (fW (S:=S) (O:=O) (fun Y st=>da Y b st) step st) Q:=by
 obtain ⟨r,h1,h2⟩:=h
 exact ⟨r,fT step H hb hl st r h1,h2⟩
theorem xk {b:List Int} {ls:List (List Int)} {r:List Int} (H:qW b ls r):gz ls+r.length=b.length:=by
 have:=congrArg List.length (lJ H)
 rw [List.length_append,kV] at this
 omega
theorem pJ (b:List Int) (hb:dv b) (hl:b.length<4294967281):Tt (dr b) fun r=>r=0∨r=5:=by
 rcases zJ hb hl with h | ⟨ls,h1,h2,h3⟩
 ·exact ⟨5,h,.inr rfl⟩
 ·rw [h3]
  exact ⟨0,Cl h1 h2 (by rw [← kV,← h3]; exact hl),.inl rfl⟩
theorem GG (a b:List Int):Tt (gW a b) fun _=>True:=⟨_,rfl,trivial⟩
theorem BJ (x:List Int) (hl:x.length<1000000000000):Tt (dJ x [46]) fun r=>r=true→1≤x.length:=by
 unfold dJ
 refine lR (fun r=>r=true→1≤x.length) (tD (fun h => ?_) fun _=>bT fun h=>by cases h) fun b hb=>tS hb
 have h1:1≤x.length:=by have:(1:Int)≤x.length:=h; omega
 exact Gz (by decide) (by show (0:Int)≤1; decide) (by show (1:Int)≤_; omega) fun r _ _=>tB (GG r _) fun _ _=>bT fun _=>h1
theorem Fo (x:List Int) (hl:x.length<1000000000000):Tt (cK x [46]) fun r=>r.length≤x.length∧∀ y∈r,y∈x:=by
 unfold cK
 refine tB (BJ x hl) fun b hb=>tC (fun h=>Gz (by show (0:Int)≤1; decide) (by have:=hb h; show (1:Int)≤_; omega) (Int.le_refl _) fun r hr hm=>tS ⟨?_,hm⟩) fun _=>tS ⟨Nat.le_refl _,fun _ h=>h⟩
 have:(r.length:Int)=x.length-1:=hr
 omega
theorem Bt (b:List Int) (hb:dv b) (hl:b.length<4294967281):Tt (kq b) fun r=>r.1.length≤2 * b.length+3:=by
 unfold kq
 obtain ⟨ls,r,H⟩:=rR b.length b (Nat.le_refl _)
 have ht:=xk H
 refine tB (pJ b hb hl) fun e _=>tN (fun _=>tS (Nat.zero_le _)) fun _=>tQ (r:=b) rfl ?_
 refine tJ _ (fun _=>False) (By H hb hl (Ca (fun _=>True) 10000000000 ls [] (by show 0+_≤_; omega) ?_ trivial)) (fun s hs => ?_) fun _ h=>h.elim
 ·intro x hx s hs _
  have e46:(ao (⟨#[46]⟩:KK)).length=1:=rfl
  have e2:(ao (⟨#[13,10]⟩:KK)).length=2:=rfl
  refine lR (fun s':List Int=>s'.length≤s.length+1∧(s.length+1<s'.length+x.length∨s'.length=s.length)) (tB (BJ x (by omega)) fun p hp=>tC (fun h=>tA (by omega) (by omega) fun q _ hq=>bT (by have:=hp h; omega)) fun _=>bT ⟨by omega,.inr rfl⟩) fun s' hs'=>tA (by omega) (by omega) fun a _ ha=>tA (by omega) (by omega) fun c _ hc=>bT ⟨trivial,by omega⟩
 ·have hs2:s.length≤0+2 * gz ls:=hs.2
  have e3:(ao (⟨#[46,13,10]⟩:KK)).length=3:=rfl
  exact tA (by omega) (by omega) fun c _ hc=>tS (by dsimp only; omega)
def sl (b:List Int):Prop:=∃ ls r,qW b ls r∧∀ l∈ls,l≠[46]
theorem xZ:∀ (ls:List (List Int)),(∀ l∈ls,l≠[46])∨∃ L ms,ls=L++[46]::ms∧∀ l∈L,l≠[46]
 | [] => .inl fun l hl=>by cases hl
 | x::ls=>by
  by_cases hx:x=[46]
  ·exact .inr ⟨[],ls,by rw [hx]; rfl,fun l hl=>by cases hl⟩
  ·rcases xZ ls with h | ⟨L,ms,h,k⟩
   ·exact .inl fun l hl=>by
     rcases List.mem_cons.1 hl with rfl | hl
     ·exact hx
     ·exact h l hl
   ·refine .inr ⟨x::L,ms,by rw [h]; rfl,fun l hl => ?_⟩
    rcases List.mem_cons.1 hl with rfl | hl
    ·exact hx
    ·exact k l hl
theorem Cb {b:List Int} (h:sl b) (hb:dv b) (hl:b.length<1000000):eO b=some ([],0,9):=by
 obtain ⟨ls,r,H,hd⟩:=h
 exact xI (Ah H hb hd (by omega))
theorem Et (b:List Int) (hb:dv b) (hl:b.length<1000000):sl b∨((∃ r,eO b=some r∧r.2.2≠9∧(r.2.2=0→0<r.2.1∧r.2.1≤(b.length:Int)∧dv r.1∧r.1.length≤2 * b.length))∧∃ n,gB b=some n∧0<n∧n≤(b.length:Int)):=by
 obtain ⟨ls,r,H⟩:=rR b.length b (Nat.le_refl _)
 have hby:=lE H hb
 rcases xZ ls with h | ⟨L,ms,h,k⟩
 ·exact .inl ⟨ls,r,H,h⟩
 ·right
  have ht:=xk H
  have htt:gz ls=gz L+(3+gz ms):=by
   rw [h,pL]
   rfl
  have hlast:dy b=some ((gz L:Int),true):=by
   unfold dy cU
   refine aX rfl (DE (a:=((gz L:Nat):Int)) (fT _ H hb (by omega) _ _ ?_) rfl)
   have e:=rG L ([46]::ms) 0 (fun l hl=>⟨hby l (by rw [h]; exact List.mem_append_left _ hl),k l hl⟩) (by omega)
   rw [h]
   refine Eq.trans e ?_
   rw [Nat.zero_add]
   show kx qq ([46]::ms) _=_
   unfold kx
   rw [Br]
  have hj:b=jn L++(jn ([46]::ms)++r):=by
   have:=lJ H
   rw [h,Cn,List.append_assoc] at this
   exact this
  have htake:iZ b 0 ((gz L:Nat):Int)=some (jn L):=by
   have:=mj b (a:=0) (b:=gz L) (by omega) (by omega)
   rw [show ((0:Nat):Int)=0 from rfl] at this
   rw [this,List.drop_zero,Nat.sub_zero]
   congr 1
   conv=>lhs; rw [hj]
   rw [← kV L,List.take_left']
   rfl
  have hjb:dv (jn L):=fun x hx=>hb x (by rw [hj]; exact List.mem_append_left _ hx)
  have hjl:(jn L).length=gz L:=kV L
  constructor
  ·obtain ⟨e,he,hee⟩:=pJ (jn L) hjb (by omega)
   obtain ⟨l2,r2,H2⟩:=rR (jn L).length (jn L) (Nat.le_refl _)
   have ht2:=xk H2
   rcases hee with rfl | rfl
   ·have key:=By (O:=Unit) H2 hjb (by omega) (Ca (O:=Unit) (J:=fun _=>False) (step:=fun (x:(List Int)) (s12:(List Int)) =>
     (cK x [46]).bind fun v8 =>
     (cq 1 s12 v8).bind fun v9 =>
     (cq 1 v9 (ao (⟨#[13,10]⟩:KK))).bind fun v10 =>
     some (.inl v10)) dv 10000000000 l2 [] (by show 0+_≤_; omega) ?_ fun x hx=>by cases hx)
    ·obtain ⟨q,k1,k2⟩:=key
     cases q with
     | inr o=>exact k2.elim
     | inl s =>
      have hs2:s.length≤0+2 * gz l2:=k2.2
      refine ⟨(s,((gz L+3:Nat):Int),0),?_,by dsimp only; decide,fun _=>⟨by dsimp only; omega,by dsimp only; omega,k2.1,by dsimp only; omega⟩⟩
      unfold eO
      exact aX hlast (au rfl (aX htake (aX he (au rfl (aX htake (aX rfl (bw k1 (aX (x:=((gz L+3:Nat):Int)) (by show some (IntKind.i64.wrap ((gz L:Int)+3))=_; rw [eB (by omega) (by omega)]; rfl) rfl))))))))
    ·intro x hx s hs hsb
     have hxb:=lE H2 hjb x hx
     have e2:(ao (⟨#[13,10]⟩:KK)).length=2:=rfl
     refine tB (Fo x (by omega)) fun p hp => ?_
     have hp1:=hp.1
     refine tA (by omega) (by omega) fun a ea ha=>tA (by omega) (by omega) fun c ec hc=>bT ⟨?_,by omega⟩
     rw [ec,ea]
     exact kE (kE hsb (zm hxb hp.2)) (cG _)
   ·refine ⟨([],0,5),?_,by dsimp only; decide,fun h=>by cases h⟩
    unfold eO
    exact aX hlast (au rfl (aX htake (aX he (aL rfl rfl))))
  ·refine ⟨((gz L+3:Nat):Int),?_,by omega,by omega⟩
   have hL:∀ i,i<L.length→∃ x,bQ ls i=some x∧dv x∧x≠[46]∧gz (L.take (i+1))=gz (L.take i)+(x.length+2)∧gz (L.take i)≤gz L:=fun i hi=>by
    refine ⟨L[i],?_,hby _ (by rw [h]; exact List.mem_append_left _ (List.getElem_mem hi)),k _ (List.getElem_mem hi),?_,?_⟩
    ·show ls[i]? = _
     rw [h,List.getElem?_append_left hi,List.getElem?_eq_getElem hi]
    ·rw [List.take_add_one,List.getElem?_eq_getElem hi,pL]
     rfl
    ·conv=>rhs; rw [← List.take_append_drop i L,pL]
     exact Nat.le_add_right _ _
   have hll:L.length<ls.length:=by rw [h,List.length_append,List.length_cons]; omega
   have hlt:∀ M:List (List Int),M.length≤gz M:=fun M=>by
    induction M with
    | nil=>exact Nat.le_refl _
    | cons y M ih =>
     have:gz (y::M)=y.length+2+gz M:=rfl
     rw [this,List.length_cons]; omega
   have hLl:=hlt ls
   unfold gB
   refine bw (s:=((gz L+3:Nat):Int)) (aX (DI H hb (by omega)) (bw (s:=((gz L+3:Nat):Int)) (nJ (fun i=>(((gz (L.take i):Nat):Int),((i:Nat):Int))) L.length dH rfl (by simp only [dH]; omega) ?_ ?_) rfl)) rfl
   ·intro i hi
    obtain ⟨x,g1,g2,g3,g4,g5⟩:=hL i hi
    have g6:=congrArg (fun n:Nat=>(n:Int)) g4
    have hx:(L.take (i+1)).length≤L.length:=by rw [List.length_take]; omega
    have g7:gz (L.take (i+1))≤gz L:=by
     conv=>rhs; rw [← List.take_append_drop (i+1) L,pL]
     exact Nat.le_add_right _ _
    refine aL (decide_eq_true (by omega)) (aX (uO (by omega)) (aX g1 (aX (x:=((x.length+2:Nat):Int)) (by show some (IntKind.i64.wrap ((x.length:Int)+2))=_; rw [eB (by omega) (by omega)]; rfl) (aX (x:=((gz (L.take (i+1)):Nat):Int)) (by rw [eB (by omega) (by omega),g4]; rfl) (aX rfl (au (by rw [Dw g2]; exact decide_eq_false g3) (aX (congrArg some (tj (n:=i) (by omega))) rfl)))))))
   ·have g1:bQ ls L.length=some [46]:=by
     show ls[L.length]? = _
     rw [h,List.getElem?_append_right (Nat.le_refl _),Nat.sub_self]
     rfl
    dsimp only
    rw [List.take_length]
    exact aL (decide_eq_true (by omega)) (aX (uO hll) (aX g1 (aX (x:=(3:Int)) rfl (aX (x:=((gz L+3:Nat):Int)) (by rw [eB (by omega) (by omega)]; rfl) (aX rfl (aL (by rw [Dw (hby _ (by rw [h]; exact List.mem_append_right _ List.mem_cons_self))]; exact decide_eq_true rfl) rfl))))))
end Go.Abs.Sh
