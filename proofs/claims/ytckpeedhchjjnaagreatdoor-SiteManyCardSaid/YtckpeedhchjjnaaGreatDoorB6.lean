import Derived.Sort.LotA
set_option linter.unusedVariables false
namespace Go.Abs
open Go.Sort
def Le (w:Nat→Int) (x y:Nat):Prop:=w x<w y∨(w x=w y∧x≤y)
theorem Le.refl (w:Nat→Int) (x:Nat):Le w x x := .inr ⟨rfl,Nat.le_refl _⟩
theorem Le.trans {w:Nat→Int} {x y z:Nat} (h:Le w x y) (k:Le w y z):Le w x z:=by unfold Le at *; omega
theorem Le.of_lt {w:Nat→Int} {x y:Nat} (h:w x-w y<0):Le w x y := .inl (by omega)
theorem Le.of_not {w:Nat→Int} {x y:Nat} (h:¬ w y-w x<0) (hxy:x≤y):Le w x y:=by unfold Le; omega
def Up (w:Nat→Int) (d:Array Nat) (a b:Nat):Prop:=∀ i j,a≤i→i<j→j<b→Le w d[i]! d[j]!
theorem Up.le {w:Nat→Int} {d:Array Nat} {a b:Nat} (h:Up w d a b) {i j:Nat} (hi:a≤i) (hij:i≤j) (hj:j<b):Le w d[i]! d[j]! := by
 rcases Nat.lt_or_eq_of_le hij with h1 | h1
 ·exact h i j hi h1 hj
 ·subst h1; exact Le.refl _ _
def db (d:Array Nat) (s m e k:Nat):Nat:=if s≤k∧k<s+(e-m) then d[k+(m-s)]! else if s+(e-m)≤k∧k<e then d[k-(e-m)]! else d[k]!
def sM (d:Array Nat) (a b i k:Nat):Nat:=if a≤k∧k<a+i then d[b+(k-a)]! else if b≤k∧k<b+i then d[a+(k-b)]! else d[k]!
theorem De (d:Array Nat) (a b k:Nat):sM d a b 0 k=d[k]! := by unfold sM;rw [if_neg (by omega),if_neg (by omega)]
theorem Fu {d dk:Array Nat} {a b n i:Nat} (hab:a+n≤b) (hb:b+n≤dk.size) (hi:i<n) (h:∀ k,dk[k]! = sM d a b i k) (k:Nat) :
  (swp dk (a+i) (b+i))[k]! = sM d a b (i+1) k:=by
 rw [swp_get dk (by omega) (by omega)];have h1:=h (a+i);have h2:=h (b+i);have h3:=h k;unfold sM at *;rw [if_neg (by omega),if_neg (by omega)] at h1;rw [if_neg (by omega),if_neg (by omega)] at h2;by_cases e1:k=b+i
 ·subst e1;rw [if_pos rfl,h1,if_neg (by omega),if_pos (by omega)];congr 1; omega
 ·rw [if_neg e1];by_cases e2:k=a+i
  ·subst e2;rw [if_pos rfl,h2,if_pos (by omega)];congr 1; omega
  ·rw [if_neg e2,h3];by_cases c1:a≤k∧k<a+i
   ·rw [if_pos c1,if_pos (by omega)]
   ·rw [if_neg c1,if_neg (show ¬ (a≤k∧k<a+(i+1)) by omega)];by_cases c2:b≤k∧k<b+i
    ·rw [if_pos c2,if_pos (by omega)]
    ·rw [if_neg c2,if_neg (by omega)]
theorem Hq {d dk:Array Nat} {m i j:Nat} (hij:j<i) (him:i≤m) (h:∀ k,dk[k]! = sM d (m-i) m j k) (k:Nat) :
  db dk (m-(i-j)) m (m+j) k=db d (m-i) m (m+j) k:=by
 unfold db;simp only [h];unfold sM;by_cases c1:m-i≤k∧k<m-i+j
 ·rw [if_neg (by omega),if_neg (by omega),if_pos (by omega),if_pos (by omega)];congr 1; omega
 ·by_cases c2:m-(i-j)≤k∧k<m-(i-j)+j
  ·rw [if_pos (by omega),if_neg (by omega),if_pos (by omega),if_neg (by omega),if_pos (by omega)];congr 1; omega
  ·by_cases c3:m-(i-j)+j≤k∧k<m+j
   ·rw [if_neg (by omega),if_pos (by omega),if_neg (by omega),if_neg (by omega),if_neg (by omega),if_pos (by omega)]
   ·rw [if_neg (by omega),if_neg (by omega),if_neg (by omega),if_neg (by omega),if_neg (by omega),if_neg (by omega)]
theorem Hd {d dk:Array Nat} {m i j:Nat} (hij:i<j) (him:i≤m) (h:∀ k,dk[k]! = sM d (m-i) (m+j-i) i k) (k:Nat) :
  db dk (m-i) m (m+(j-i)) k=db d (m-i) m (m+j) k:=by
 unfold db;simp only [h];unfold sM;by_cases c1:m-i≤k∧k<m-i+(j-i)
 ·rw [if_pos (by omega),if_pos (show m-i≤k∧k<m-i+(m+j-m) by omega)];by_cases c4:m+j-i≤k+(m-(m-i))
  ·omega
  ·rw [if_neg (by omega),if_neg (by omega)]
 ·by_cases c2:m-i+(j-i)≤k∧k<m+(j-i)
  ·rw [if_neg (by omega),if_pos (by omega),if_pos (by omega)];by_cases c3:k<m-i+(m+j-m)
   ·rw [if_pos (by omega)];congr 1; omega
   ·omega
  ·by_cases c3:m+(j-i)≤k∧k<m+j
   ·rw [if_neg (by omega),if_neg (by omega),if_neg (by omega),if_pos (by omega),if_neg (by omega),if_pos (by omega)];congr 1; omega
   ·rw [if_neg (by omega),if_neg (by omega),if_neg (by omega),if_neg (by omega),if_neg (by omega),if_neg (by omega)]
theorem Ia {d dk:Array Nat} {m i:Nat} (him:i≤m) (h:∀ k,dk[k]! = sM d (m-i) m i k) (k:Nat):dk[k]! = db d (m-i) m (m+i) k:=by
 rw [h];unfold db sM;by_cases c1:m-i≤k∧k<m-i+i
 ·rw [if_pos c1,if_pos (by omega)];congr 1; omega
 ·by_cases c2:m≤k∧k<m+i
  ·rw [if_neg (by omega),if_pos c2,if_neg (by omega),if_pos (by omega)];congr 1; omega
  ·rw [if_neg (by omega),if_neg (by omega),if_neg (by omega),if_neg (by omega)]
theorem DK {d dk:Array Nat} {a k:Nat} (hk:a≤k) (hb:k+1<dk.size) (h:∀ q,dk[q]! = db d a (a+1) (k+1) q) (q:Nat):(swp dk k (k+1))[q]! = db d a (a+1) (k+2) q:=by
 rw [swp_get dk (by omega) (by omega)];have h1:=h k;have h2:=h (k+1);have h3:=h q;unfold db at *;rw [if_neg (by omega),if_pos (by omega)] at h1;rw [if_neg (by omega),if_neg (by omega)] at h2;by_cases e1:q=k+1
 ·subst e1;rw [if_pos rfl,h1,if_neg (by omega),if_pos (by omega)];congr 1; omega
 ·rw [if_neg e1];by_cases e2:q=k
  ·subst e2;rw [if_pos rfl,h2,if_pos (by omega)];congr 1; omega
  ·rw [if_neg e2,h3];by_cases c1:a≤q∧q<k
   ·rw [if_pos (by omega),if_pos (by omega)]
   ·rw [if_neg (by omega),if_neg (by omega),if_neg (by omega),if_neg (by omega)]
theorem zS {d dk:Array Nat} {m k:Nat} (h0:0<k) (hk:k≤m) (hb:m<dk.size) (h:∀ q,dk[q]! = db d k m (m+1) q) (q:Nat):(swp dk k (k-1))[q]! = db d (k-1) m (m+1) q:=by
 rw [swp_get dk (by omega) (by omega)];have h1:=h k;have h2:=h (k-1);have h3:=h q;unfold db at *;rw [if_pos (by omega)] at h1;rw [if_neg (by omega),if_neg (by omega)] at h2;by_cases e1:q=k-1
 ·subst e1;rw [if_pos rfl,h1,if_pos (by omega)];congr 1; omega
 ·rw [if_neg e1];by_cases e2:q=k
  ·subst e2;rw [if_pos rfl,h2,if_neg (by omega),if_pos (by omega)];congr 1; omega
  ·rw [if_neg e2,h3];by_cases c1:k<q∧q<m+1
   ·rw [if_neg (by omega),if_pos (by omega),if_neg (by omega),if_pos (by omega)]
   ·rw [if_neg (by omega),if_neg (by omega),if_neg (by omega),if_neg (by omega)]
theorem xH (d:Array Nat) (s m k:Nat):db d s m m k=d[k]! := by
 unfold db;by_cases c:s+(m-m)≤k∧k<m
 ·rw [if_neg (by omega),if_pos c]; congr 1; omega
 ·rw [if_neg (by omega),if_neg c]
theorem nK (d:Array Nat) (m e k:Nat):db d m m e k=d[k]! := by
 unfold db;by_cases c:m≤k∧k<m+(e-m)
 ·rw [if_pos c]; congr 1; omega
 ·rw [if_neg c,if_neg (by omega)]
theorem Ec {w:Nat→Int} {d d':Array Nat} {a b i:Nat} (hi:a+1≤i) (hib:i≤b) (h2:Up w d (a+1) b) (hl:∀ k,a+1≤k→k<i→Le w d[k]! d[a]!) (hr:∀ k,i≤k→k<b→Le w d[a]! d[k]!)
  (h:∀ k,d'[k]! = db d a (a+1) i k):Up w d' a b:=by
 intro p q hp hpq hq;rw [h p,h q];unfold db;by_cases c1:q<a+(i-(a+1))
 ·rw [if_pos (by omega),if_pos (by omega)];exact h2 _ _ (by omega) (by omega) (by omega)
 ·by_cases c2:q<i
  ·rw [if_pos (by omega),if_neg (by omega),if_pos (by omega),show q-(i-(a+1))=a by omega];exact hl _ (by omega) (by omega)
  ·rw [if_neg (show ¬ (a≤q∧q<a+(i-(a+1))) by omega),if_neg (show ¬ (a+(i-(a+1))≤q∧q<i) by omega)];by_cases c3:p<a+(i-(a+1))
   ·rw [if_pos (by omega)];exact h2 _ _ (by omega) (by omega) (by omega)
   ·by_cases c4:p<i
    ·rw [if_neg (by omega),if_pos (by omega),show p-(i-(a+1))=a by omega];exact hr _ (by omega) hq
    ·rw [if_neg (by omega),if_neg (by omega)];exact h2 _ _ (by omega) (by omega) (by omega)
theorem yf {w:Nat→Int} {d d':Array Nat} {a m i:Nat} (hi:a≤i) (him:i≤m) (h1:Up w d a m) (hl:∀ k,a≤k→k<i→Le w d[k]! d[m]!) (hr:∀ k,i≤k→k<m→Le w d[m]! d[k]!)
  (h:∀ k,d'[k]! = db d i m (m+1) k):Up w d' a (m+1):=by
 intro p q hp hpq hq;rw [h p,h q];unfold db;by_cases c1:q<i
 ·rw [if_neg (by omega),if_neg (by omega),if_neg (by omega),if_neg (by omega)];exact h1 _ _ (by omega) (by omega) (by omega)
 ·by_cases c2:q=i
  ·rw [if_neg (by omega),if_neg (by omega),if_pos (by omega),show q+(m-i)=m by omega];exact hl _ (by omega) (by omega)
  ·rw [if_neg (show ¬ (i≤q∧q<i+(m+1-m)) by omega),if_pos (show i+(m+1-m)≤q∧q<m+1 by omega)];by_cases c3:p<i
   ·rw [if_neg (by omega),if_neg (by omega)];exact h1 _ _ (by omega) (by omega) (by omega)
   ·by_cases c4:p=i
    ·rw [if_pos (by omega),show p+(m-i)=m by omega];exact hr _ (by omega) (by omega)
    ·rw [if_neg (by omega),if_pos (by omega)];exact h1 _ _ (by omega) (by omega) (by omega)
structure Eg (w:Nat→Int) (d:Array Nat) (a m b:Nat):Prop where
 left:Up w d a m
 right:Up w d m b
 ids:∀ i j,a≤i→i<m→m≤j→j<b→d[i]! ≤ d[j]!
theorem ma {w:Nat→Int} {d d1:Array Nat} {a m b mid s e:Nat} (h:Eg w d a m b) (ham:a≤m) (hmb:m≤b) (has:a≤s) (hsm:s≤m) (hme:m≤e) (heb:e≤b) (hmid:s+(e-m)=mid)
  (hlo:a<s→e<b→Le w d[s-1]! d[e]!) (hhi:s<m→m<e→Le w d[e-1]! d[s]!) (h1:∀ k,d1[k]! = db d s m e k) :
  Eg w d1 a s mid∧Eg w d1 mid e b∧∀ i j,a≤i→i<mid→mid≤j→j<b→Le w d1[i]! d1[j]! := by
 have e1:∀ k,k<s→d1[k]! = d[k]! := fun k hk=>by rw [h1]; unfold db; rw [if_neg (by omega),if_neg (by omega)]
 have e2:∀ k,s≤k→k<mid→d1[k]! = d[k+(m-s)]! := fun k hk hk2=>by rw [h1]; unfold db; rw [if_pos (by omega)]
 have e3:∀ k,mid≤k→k<e→d1[k]! = d[k-(e-m)]! := fun k hk hk2=>by rw [h1]; unfold db; rw [if_neg (by omega),if_pos (by omega)]
 have e4:∀ k,e≤k→d1[k]! = d[k]! := fun k hk=>by rw [h1]; unfold db; rw [if_neg (by omega),if_neg (by omega)]
 refine ⟨⟨?_,?_,?_⟩,⟨?_,?_,?_⟩,?_⟩
 ·intro i j hi hij hj;rw [e1 i (by omega),e1 j hj];exact h.left i j hi hij (by omega)
 ·intro i j hi hij hj;rw [e2 i hi (by omega),e2 j (by omega) hj];exact h.right _ _ (by omega) (by omega) (by omega)
 ·intro i j hi his hj hjm;rw [e1 i his,e2 j hj hjm];exact h.ids _ _ hi (by omega) (by omega) (by omega)
 ·intro i j hi hij hj;rw [e3 i hi (by omega),e3 j (by omega) hj];exact h.left _ _ (by omega) (by omega) (by omega)
 ·intro i j hi hij hj;rw [e4 i hi,e4 j (by omega)];exact h.right _ _ (by omega) hij hj
 ·intro i j hi his hj hjb;rw [e3 i hi his,e4 j hj];exact h.ids _ _ (by omega) (by omega) (by omega) hjb
 ·intro i j hi him hj hjb;by_cases ci:i<s
  ·rw [e1 i ci];by_cases cj:j<e
   ·rw [e3 j hj cj];exact h.left _ _ hi (by omega) (by omega)
   ·rw [e4 j (by omega)];exact ((h.left.le hi (show i≤s-1 by omega) (by omega)).trans (hlo (by omega) (by omega))).trans (h.right.le hme (by omega) hjb)
  ·rw [e2 i (by omega) him];by_cases cj:j<e
   ·rw [e3 j hj cj];exact ((h.right.le (by omega) (show i+(m-s)≤e-1 by omega) (by omega)).trans (hhi (by omega) (by omega))).trans (h.left.le has (by omega) (by omega))
   ·rw [e4 j (by omega)];exact h.right _ _ (by omega) (by omega) hjb
theorem Fz {w:Nat→Int} {d1 d2:Array Nat} {a mid b:Nat} (ham:a≤mid) (hmb:mid≤b) (hb:b≤d1.size) (hc:∀ i j,a≤i→i<mid→mid≤j→j<b→Le w d1[i]! d1[j]!)
  (hl:Up w d2 a mid) (hr:Up w d2 mid b) (p:∃ dm,PermIn a mid d1 dm∧PermIn mid b dm d2):Up w d2 a b:=by
 obtain ⟨dm,p1,p2⟩:=p;intro i j hi hij hj;by_cases c1:j<mid
 ·exact hl i j hi hij c1
 ·by_cases c2:mid≤i
  ·exact hr i j c2 hij hj
  ·rw [p2.2.1 i (.inl (by omega))];refine permIn_all dm d2 mid b (fun y=>Le w dm[i]! y) (by rw [p1.1]; exact hb) p2 (fun k hk hkb => ?_) j (by omega) hj;rw [p1.2.1 k (.inr hk)];exact permIn_all d1 dm a mid (fun x=>Le w x d1[k]!) (by omega) p1 (fun q hq hqm=>hc q k hq hqm hk hkb) i hi (by omega)
structure BT (w:Nat→Int) (d dj:Array Nat) (a i j:Nat):Prop where
 get:∀ k,dj[k]! = db d j i (i+1) k
 gt:∀ k,j≤k→k<i→Le w d[i]! d[k]!
theorem BT.start {w:Nat→Int} {d:Array Nat} {a i:Nat}:BT w d d a i i:=⟨fun k=>by rw [nK],fun k h1 h2=>by omega⟩
theorem BT.cur {w:Nat→Int} {d dj:Array Nat} {a i j:Nat} (h:BT w d dj a i j) (hj:j≤i):dj[j]! = d[i]! := by rw [h.get]; unfold db; rw [if_pos (by omega)]; congr 1; omega
theorem BT.prev {w:Nat→Int} {d dj:Array Nat} {a i j:Nat} (h:BT w d dj a i j) (h0:0<j) (hj:j≤i):dj[j-1]! = d[j-1]! := by rw [h.get]; unfold db; rw [if_neg (by omega),if_neg (by omega)]
theorem BT.step {w:Nat→Int} {d dj:Array Nat} {a i j:Nat} (h:BT w d dj a i j) (h0:0<j) (hj:j≤i) (hs:i<dj.size) (hlt:w dj[j]! - w dj[j-1]! < 0):BT w d (swp dj j (j-1)) a i (j-1):=by
 refine ⟨fun k=>zS h0 hj hs h.get k,fun k h1 h2 => ?_⟩;by_cases e:k=j-1
 ·subst e;rw [← h.cur hj,← h.prev h0 hj];exact Le.of_lt hlt
 ·exact h.gt k (by omega) h2
theorem BT.done {w:Nat→Int} {d dj:Array Nat} {a i j:Nat} (h:BT w d dj a i j) (hu:Up w d a i) (haj:a≤j) (hj:j≤i) (hid:∀ k,a≤k→k<i→d[k]! ≤ d[i]!) (hs:j≤a∨¬ w dj[j]! - w dj[j-1]! < 0):Up w dj a (i+1):=by
 refine yf haj hj hu (fun k h1 h2 => ?_) (fun k h1 h2=>h.gt k h1 h2) h.get;rcases hs with hs | hs
 ·omega
 ·rw [h.cur hj,h.prev (by omega) hj] at hs;exact (hu.le h1 (show k≤j-1 by omega) (by omega)).trans (Le.of_not hs (hid _ (by omega) (by omega)))
def Ids (d:Array Nat) (a b i:Nat):Prop:=∀ k t,a≤k→k<t→i≤t→t<b→d[k]! ≤ d[t]!
theorem BT.ids {w:Nat→Int} {d dj:Array Nat} {a b i j:Nat} (h:BT w d dj a i j) (haj:a≤j) (hj:j≤i) (hI:Ids d a b i):Ids dj a b (i+1):=by
 intro k t hk hkt fq htb;rw [h.get k,h.get t];unfold db;rw [if_neg (show ¬ (j≤t∧t<j+(i+1-i)) by omega),if_neg (show ¬ (j+(i+1-i)≤t∧t<i+1) by omega)];by_cases c1:j≤k∧k<j+(i+1-i)
 ·rw [if_pos c1]; exact hI _ t (by omega) (by omega) (by omega) htb
 ·by_cases c2:j+(i+1-i)≤k∧k<i+1
  ·rw [if_neg c1,if_pos c2]; exact hI _ t (by omega) (by omega) (by omega) htb
  ·rw [if_neg c1,if_neg c2]; exact hI _ t hk hkt (by omega) htb
theorem Eg.congr {w:Nat→Int} {d d':Array Nat} {a m b:Nat} (h:Eg w d a m b) (e:∀ k,a≤k→k<b→d'[k]! = d[k]!) (ham:a≤m) (hmb:m≤b):Eg w d' a m b:=by
 refine ⟨fun i j h1 h2 h3 => ?_,fun i j h1 h2 h3 => ?_,fun i j h1 h2 h3 h4 => ?_⟩
 ·rw [e i h1 (by omega),e j (by omega) (by omega)]; exact h.left i j h1 h2 h3
 ·rw [e i (by omega) (by omega),e j (by omega) h3]; exact h.right i j h1 h2 h3
 ·rw [e i h1 (by omega),e j (by omega) h4]; exact h.ids i j h1 h2 h3 h4
theorem Eg.after {w:Nat→Int} {d d':Array Nat} {a mid m b:Nat} (h:Eg w d mid m b) (p:PermIn a mid d d') (ham:mid≤m) (hmb:m≤b):Eg w d' mid m b :=
 h.congr (fun k h1 _=>p.2.1 k (.inr h1)) ham hmb
theorem fM {w:Nat→Int} {d d1 d2 d3:Array Nat} {a mid b:Nat} (ham:a≤mid) (hmb:mid≤b) (hb:b≤d.size) (p:PermIn a b d d1) (hc:∀ i j,a≤i→i<mid→mid≤j→j<b→Le w d1[i]! d1[j]!)
  (p2:PermIn a mid d1 d2) (u2:Up w d2 a mid) (p3:PermIn mid b d2 d3) (u3:Up w d3 mid b):PermIn a b d d3∧Up w d3 a b:=by
 have hb1:b≤d1.size:=by rw [p.1]; exact hb
 have hb2:b≤d2.size:=by rw [p2.1]; exact hb1
 refine ⟨permIn_trans _ _ _ _ _ p (permIn_trans _ _ _ _ _ (permIn_mono _ _ _ _ _ _ (Nat.le_refl _) hmb hb1 p2) (permIn_mono _ _ _ _ _ _ ham (Nat.le_refl _) hb2 p3)),?_⟩;refine Fz ham hmb hb1 hc (fun i j h1 h2 h3 => ?_) u3 ⟨d2,p2,p3⟩;rw [p3.2.1 i (.inl (by omega)),p3.2.1 j (.inl h3)];exact u2 i j h1 h2 h3
end Go.Abs
