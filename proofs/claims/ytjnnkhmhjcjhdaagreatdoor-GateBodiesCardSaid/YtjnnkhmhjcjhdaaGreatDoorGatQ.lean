import Derived.Test.YtjnnkhmhjcjhdaaGreatDoorLineM
import Derived.KernelRfl
namespace Go.Abs.Sh
set_option linter.unusedVariables false
set_option linter.unusedSimpArgs false
set_option maxRecDepth 10000
def qt {X S O:Type} (step:X→S→Option (S⊕O)):List X→S→Option (S⊕O)
 | [],s=>some (.inl s)
 | x::l,s=>match step x s with
  | none=>none
  | some (.inl s')=>qt step l s'
  | some (.inr o)=>some (.inr o)
inductive uh:List Int→List (List Int)→List Int→Prop
 | nil {b:List Int} (h:fi b=none):uh b [] b
 | cons {b:List Int} {e:Nat} {ls:List (List Int)} {r:List Int} (h:fi b=some e) (t:uh (b.drop (e+2)) ls r):uh b (b.take e::ls) r
theorem nT {n:Int} (h0 : -9223372036854775808≤n) (h1:n<9223372036854775808):some (IntKind.i64.wrap n)=some n:=by rw [qN h0 h1]
theorem Ch {b:List Int} (hb:kC b) (hl:b.length<4294967281) (h:fi b=none):eO b [13,10]=some (b,[],false):=by
 unfold eO
 refine db (sb hb hl) ?_
 rw [h]
 rfl
theorem wL {b:List Int} (hb:kC b) (hl:b.length<4294967281) {e:Nat} (h:fi b=some e):eO b [13,10]=some (b.take e,b.drop (e+2),true):=by
 have h1:=(pg h).1
 unfold eO
 refine db (sb hb hl) ?_
 rw [h]
 refine cQ (decide_eq_true (by show (0:Int)≤(e:Int); omega)) ?_
 have e1:ml b 0 (e:Int)=some (b.take e):=by
  have:=qj b (a:=0) (b:=e) (by omega) (by omega)
  simpa using this
 refine db e1 ?_
 refine db (x:=((e+2:Nat):Int)) (by
  show some (IntKind.i64.wrap ((e:Int)+2))=_
  rw [nT (by omega) (by omega)]; simp) ?_
 refine db (x:=b.drop (e+2)) (by
  rw [qj b (by omega) (by omega),List.take_of_length_le (by simp)]) rfl
theorem nG {S O:Type} (step:List Int→S→Option (S⊕O)) {b:List Int} {ls:List (List Int)} {rest:List Int} (H:uh b ls rest) (hb:kC b) (hl:b.length<4294967281) (st:S) (r:S⊕O) (hr:qt step ls st=some r) :
  kQ (S:=S) (O:=O) (fun Y st=>eu Y b st) step st=some r:=by
 unfold kQ eu
 have key:∀ (b:List Int) (ls:List (List Int)) (rest:List Int),uh b ls rest→kC b→b.length<4294967281→∀ (fuel:Nat) (st:S),b.length<fuel→qt step ls st=some r →
   bu (S:=(Unit)) (A:=S⊕O)
    (cz (S:=((List Int)×(S⊕O))) (O:=(Unit)⊕(S⊕O)) (fun ((s17,s18):(List Int)×(S⊕O)) =>
     (eO s17 [13,10]).bind fun v1 =>
     bu (S:=(S⊕O)×Bool) (A:=(((List Int)×(S⊕O))⊕((Unit)⊕(S⊕O))))
      (cond ((!v1.2.2))
       (some (.inl (s18,true)))
       ((nE step v1.1 s18).bind fun v2 =>
       some (.inl ((v2.1,(!v2.2))))))
      (fun ((s31,s32):(S⊕O)×Bool) =>
       cond (s32)
        (some (.inr (.inr (s31))))
        (some (.inl (v1.2.1,s31)))) some)
     fuel (b,.inl st))
    (fun (():Unit) =>
     none) some=some r:=by
  intro b ls rest H
  induction H with
  | nil h =>
   intro hb hl fuel st hf hr
   obtain ⟨f,rfl⟩:∃ f,fuel=f+1:=⟨fuel-1,by omega⟩
   rw [rC (o := .inr (.inl st)) (db (Ch hb hl h) rfl)]
   exact hr
  | cons h t ih =>
   rename_i b e ls r'
   intro hb hl fuel st hf hr
   obtain ⟨f,rfl⟩:∃ f,fuel=f+1:=⟨fuel-1,by omega⟩
   have h1:=(pg h).1
   simp only [qt] at hr
   cases hst:step (b.take e) st with
   | none=>rw [hst] at hr; cases hr
   | some u =>
    rw [hst] at hr
    cases u with
    | inl s' =>
     rw [vf (s':=(b.drop (e+2),.inl s')) (db (wL hb hl h) (fG (s:=((Sum.inl s':S⊕O),false)) (cK rfl (db (x:=((Sum.inl s':S⊕O),true)) (by simp [nE,hst]) rfl)) rfl))]
     exact ih (wX hb _) (by rw [List.length_drop]; omega) f s' (by rw [List.length_drop]; omega) hr
    | inr o =>
     rw [rC (o := .inr (.inr o)) (db (wL hb hl h) (fG (s:=((Sum.inr o:S⊕O),true)) (cK rfl (db (x:=((Sum.inr o:S⊕O),false)) (by simp [nE,hst]) rfl)) rfl))]
     exact hr
 exact key b ls rest H hb hl kB st (by unfold kB; omega) hr
def jn:List (List Int)→List Int
 | []=>[]
 | l::ls=>l++13::10::jn ls
theorem rn:∀ (a b:List (List Int)),jn (a++b)=jn a++jn b
 | [],b=>rfl
 | x::a,b=>by simp [jn,rn a b]
theorem BS {b:List Int} {ls:List (List Int)} {r:List Int} (H:uh b ls r):b=jn ls++r:=by
 induction H with
 | nil h=>rfl
 | cons h t ih =>
  have h2:=(pg h).2
  conv=>lhs; rw [h2]
  simp only [jn,List.append_assoc,List.cons_append]
  rw [← ih]
def sG (l:List Int):Prop:=∀ x∈l,x≠13∧x≠10
theorem Ad {ls:List (List Int)} {t:List Int} {ms:List (List Int)} {r:List Int} (h:∀ l∈ls,sG l) (H:uh t ms r):uh (jn ls++t) (ls++ms) r:=by
 induction ls with
 | nil=>exact H
 | cons l ls ih =>
  have e:jn (l::ls)++t=l++13::10::(jn ls++t):=by simp [jn]
  have hi:=mf (line:=l) (rest:=jn ls++t) (fun x hx=>(h l (by simp) x hx).1)
  have:=uh.cons (b:=l++13::10::(jn ls++t)) hi (ls:=ls++ms) (r:=r) (by
   have e2:(l++13::10::(jn ls++t)).drop (l.length+2)=jn ls++t:=by
    rw [List.drop_append]; simp
   rw [e2]
   exact ih fun x hx=>h x (by simp [hx]))
  rw [e]
  have e3:(l++13::10::(jn ls++t)).take l.length=l:=by simp
  rw [e3] at this
  exact this
theorem sZ:∀ {l:List Int},sG l→jC l = -1
 | [],_=>rfl
 | x::l,h=>by
  have hx:=h x (by simp)
  unfold jC
  rw [if_neg (by rintro (e | e); exact hx.1 e; exact hx.2 e),if_pos (sZ fun y hy=>h y (by simp [hy]))]
theorem tI:∀ {l:List Int},¬ sG l→0≤jC l
 | [],h=>absurd (fun x hx=>by simp at hx) h
 | x::l,h=>by
  unfold jC
  by_cases hx:x=13∨x=10
  ·rw [if_pos hx]; omega
  ·rw [if_neg hx]
   have:=tI (l:=l) (fun hc=>h fun y hy=>by
    rcases List.mem_cons.1 hy with rfl | hy
    ·exact ⟨fun e=>hx (.inl e),fun e=>hx (.inr e)⟩
    ·exact hc y hy)
   rw [if_neg (by omega)]; omega
theorem CS {l:List Int} (hb:kC l) (hl:l.length<4294967281):dx l (⟨#[13,10]⟩:ByteArray)=some (decide (0≤jC l)):=by
 unfold dx gz
 rw [if_pos ⟨rfl,hl,List.all_eq_true.2 fun x hx=>decide_eq_true (hb x hx)⟩]
 rfl
def jk:List (List Int)→Nat
 | []=>0
 | l::ls=>l.length+2+jk ls
theorem pP:∀ ls,(jn ls).length=jk ls
 | []=>rfl
 | l::ls=>by simp [jn,jk,pP ls]; omega
theorem Bf:∀ (ls:List (List Int)) (s:Nat),(∀ l∈ls,kC l)→s+jk ls<4294967281→(¬ ∀ l∈ls,sG l) →
  ∃ o,qt (S:=Int) (O:=Int) (fun (x:(List Int)) (s8:Int) =>
   (dx x (⟨#[13,10]⟩:ByteArray)).bind fun v2 =>
   cond (v2)
    (some (.inr s8))
    ((some (IntKind.i64.wrap ((x.length:Int)+2))).bind fun v4 =>
    (some (IntKind.i64.wrap (s8+v4))).bind fun v5 =>
    some (.inl v5))) ls (s:Int)=some (.inr o):=by
 intro ls
 induction ls with
 | nil=>intro s _ _ h; exact absurd (fun x hx=>by simp at hx) h
 | cons l ls ih =>
  intro s hb hs h
  simp only [jk] at hs
  by_cases hc:sG l
  ·have e:((dx l (⟨#[13,10]⟩:ByteArray)).bind fun v2 =>
   cond (v2)
    (some (.inr (s:Int)))
    ((some (IntKind.i64.wrap ((l.length:Int)+2))).bind fun v4 =>
    (some (IntKind.i64.wrap ((s:Int)+v4))).bind fun v5 =>
    some (.inl v5)):Option (Int⊕Int))=some (.inl ((s+(l.length+2):Nat):Int)):=by
    refine db (CS (hb l (by simp)) (by omega)) ?_
    rw [sZ hc]
    refine cK rfl (db (nT (by omega) (by omega)) (db (nT (by omega) (by omega)) ?_))
    simp
   obtain ⟨o,ho⟩:=ih (s+(l.length+2)) (fun m hm=>hb m (by simp [hm])) (by omega) (fun hh=>h fun m hm=>by
    rcases List.mem_cons.1 hm with rfl | hm
    ·exact hc
    ·exact hh m hm)
   refine ⟨o,?_⟩
   simp only [qt]
   rw [e]
   exact ho
  ·refine ⟨(s:Int),?_⟩
   simp only [qt]
   rw [CS (hb l (by simp)) (by omega),decide_eq_true (tI hc)]
   rfl
theorem FF {ls:List (List Int)} (h:kC (jn ls)):∀ l∈ls,kC l:=by
 induction ls with
 | nil=>intro l hl; simp at hl
 | cons m ls ih =>
  intro l hl
  simp only [jn] at h
  rcases List.mem_cons.1 hl with rfl | hl
  ·exact fun x hx=>h x (by simp [hx])
  ·exact ih (fun x hx=>h x (by simp [hx])) l hl
theorem CT {ls:List (List Int)} (h:∀ l∈ls,kC l):kC (jn ls):=by
 induction ls with
 | nil=>intro l hl; simp [jn] at hl
 | cons m ls ih =>
  intro x hx
  simp only [jn,List.mem_append,List.mem_cons] at hx
  rcases hx with hx | rfl | rfl | hx
  ·exact h m (by simp) x hx
  ·omega
  ·omega
  ·exact ih (fun l hl=>h l (by simp [hl])) x hx
theorem Fl (l:List Int) (h:l.length<4294967296):fH l=some l:=by
 unfold fH
 exact db (x:=l) (by simp only [cW]; rw [if_pos (by simp; omega)]; simp) rfl
def nf (l:List Int):List Int:=if l.head? = some 46 then 46::l else l
theorem DL (l:List Int):nf l≠[46]:=by
 unfold nf
 split
 ·rename_i h; intro e; cases l with
  | nil=>simp at h
  | cons=>simp at e
 ·rename_i h; intro e; rw [e] at h; simp at h
theorem DS {l:List Int} (h:sG l):sG (nf l):=by
 unfold nf; split
 ·intro x hx
  rcases List.mem_cons.1 hx with rfl | hx
  ·decide
  ·exact h x hx
 ·exact h
theorem DJ {l:List Int} (h:kC l):kC (nf l):=by
 unfold nf; split
 ·intro x hx
  rcases List.mem_cons.1 hx with rfl | hx
  ·decide
  ·exact h x hx
 ·exact h
theorem Dv (l:List Int):(nf l).length≤l.length+1:=by unfold nf; split <;> simp
theorem Aj:∀ ls:List (List Int),jk (ls.map nf)≤2 * jk ls
 | []=>by simp [jk]
 | l::ls=>by
  have h1:=Dv l
  have h2:=Aj ls
  simp only [List.map_cons,jk]; omega
theorem qI:∀ a b:List (List Int),jk (a++b)=jk a+jk b
 | [],b=>by simp [jk]
 | x::a,b=>by simp only [List.cons_append,jk,qI a b]; omega
theorem Ip:cr (⟨#[46]⟩:ByteArray)=[46]:=rfl
def tl:List Int→Int→Option (Int⊕Int):=fun (x:(List Int)) (s8:Int) =>
   (some (iY x)).bind fun v2 =>
   cond ((v2.toList==(⟨#[46]⟩:ByteArray).toList))
    (some (.inr s8))
    ((some (IntKind.i64.wrap ((x.length:Int)+2))).bind fun v4 =>
    (some (IntKind.i64.wrap (s8+v4))).bind fun v5 =>
    some (.inl v5))
theorem GK {x:List Int} (hb:kC x):((iY x).toList==(⟨#[46]⟩:ByteArray).toList)=decide (x=[46]):=by
 rw [tD]
 refine decide_eq_decide.2 ⟨fun h => ?_,fun h=>by rw [h]; rfl⟩
 have:=congrArg cr h
 rw [rM hb,Ip] at this
 exact this
theorem Dz {x:List Int} {s:Nat} (hb:kC x) (h:x≠[46]) (hl:s+x.length<4611686018427387904):tl x (s:Int)=some (.inl ((s+(x.length+2):Nat):Int)):=by
 unfold tl
 refine db rfl ?_
 rw [GK hb]
 refine cK (decide_eq_false h) (db (nT (by omega) (by omega)) (db (nT (by omega) (by omega)) ?_))
 simp
theorem CP (s:Int):tl [46] s=some (.inr s):=by
 unfold tl
 refine db rfl ?_
 rw [GK (by decide)]
 exact cQ rfl rfl
theorem xg:∀ (ls ms:List (List Int)) (s:Nat),(∀ l∈ls,kC l∧l≠[46])→s+jk ls<4611686018427387904→qt tl (ls++ms) (s:Int)=qt tl ms ((s+jk ls:Nat):Int)
 | [],ms,s,_,_=>by simp [jk]
 | l::ls,ms,s,hb,hs=>by
  simp only [jk] at hs
  rw [List.cons_append]
  conv=>lhs; unfold qt
  rw [Dz (hb l (by simp)).1 (hb l (by simp)).2 (by omega)]
  refine (xg ls ms _ (fun m hm=>hb m (by simp [hm])) (by omega)).trans ?_
  simp only [jk]
  rw [show s+(l.length+2)+jk ls=s+(l.length+2+jk ls) by omega]
def wh:List Int→List (List Int)→Option (List (List Int)⊕Unit):=fun (x:(List Int)) (s7:(List (List Int))) =>
   (cW 1 ([]:List Int) x).bind fun v2 =>
   (cW 24 s7 [v2]).bind fun v3 =>
   some (.inl v3)
theorem uI:∀ (ls s:List (List Int)),s.length * 24+jk ls * 24<140737488355328→qt wh ls s=some (.inl (s++ls))
 | [],s,_=>by simp [qt]
 | l::ls,s,hs=>by
  simp only [jk] at hs
  have e:wh l s=some (.inl (s++[l])):=by
   unfold wh
   refine db (x:=l) (by rw [ij (by simp; omega) (by simp; omega)]; rfl) (db (ij (by simp; omega) (by simp; omega)) rfl)
  simp only [qt]
  rw [e]
  refine (uI ls _ (by simp only [List.length_append,List.length_cons,List.length_nil]; omega)).trans ?_
  simp
theorem Ep {b:List Int} {ls:List (List Int)} {r:List Int} (H:uh b ls r) (hb:kC b) (hl:b.length<4000000000):kZ b=some ls:=by
 have hj:=BS H
 have ht:b.length=jk ls+r.length:=by rw [hj,List.length_append,pP]
 unfold kZ eY
 refine db rfl ?_
 refine fG (s:=ls) (nG wh H hb (by omega) _ _ ?_) rfl
 have:=uI ls [] (by simp; omega)
 simpa using this
def Gk:Int→List Int→Prop
 | _,[]=>True
 | p,x::l=>(x=13→l.head? = some 10)∧(x=10→p=13)∧Gk x l
theorem xJ:∀ (b:List Int) (p:Int),Gk p b→p≠13→b.getLast? = some 10→∃ l r,b=l++13::10::r∧sG l∧Gk 10 r∧(r=[]∨r.getLast? = some 10)
 | [],p,_,_,h=>by simp at h
 | x::t,p,h,hp,hl=>by
  obtain ⟨h1,h2,h3⟩:=h
  by_cases hx:x=13
  ·subst hx
   cases t with
   | nil=>simp at hl
   | cons y r =>
    have hy:=h1 rfl
    simp at hy
    subst hy
    refine ⟨[],r,rfl,fun z hz=>by simp at hz,h3.2.2,?_⟩
    cases r with
    | nil=>exact .inl rfl
    | cons z r=>right; rw [List.getLast?_cons_cons,List.getLast?_cons_cons] at hl; exact hl
  ·have hx2:x≠10:=fun e=>hp (h2 e)
   cases t with
   | nil=>simp at hl; exact absurd hl hx2
   | cons y t =>
    rw [List.getLast?_cons_cons] at hl
    obtain ⟨l,r,e,hc,ho,hr⟩:=xJ (y::t) x h3 hx hl
    refine ⟨x::l,r,by rw [e]; rfl,fun z hz => ?_,ho,hr⟩
    rcases List.mem_cons.1 hz with rfl | hz
    ·exact ⟨hx,hx2⟩
    ·exact hc z hz
theorem uC:∀ (n:Nat) (b:List Int) (p:Int),b.length≤n→Gk p b→p≠13→(b=[]∨b.getLast? = some 10)→∃ ls,(∀ l∈ls,sG l)∧b=jn ls
 | 0,b,p,hn,_,_,_=>⟨[],fun l hl=>by simp at hl,by cases b with | nil=>rfl | cons=>simp at hn⟩
 | n+1,b,p,hn,ho,hp,hl=>by
  rcases hl with rfl | hl
  ·exact ⟨[],fun l hl=>by simp at hl,rfl⟩
  ·obtain ⟨l,r,e,hc,ho2,hr⟩:=xJ b p ho hp hl
   obtain ⟨ls,h1,h2⟩:=uC n r 10 (by rw [e] at hn; simp at hn; omega) ho2 (by decide) hr
   refine ⟨l::ls,fun m hm => ?_,by rw [e,h2]; rfl⟩
   rcases List.mem_cons.1 hm with rfl | hm
   ·exact hc
   ·exact h1 m hm
def DP (b:List Int) (i:Nat):Bool:=if b[i]? = some 13 then decide (b[i+1]? ≠ some 10) else if b[i]? = some 10 then decide (i=0∨b[i-1]? ≠ some 13) else false
theorem Cs:∀ (b:List Int) (p:Int),(∀ i,i<b.length→(b[i]? = some 13→b[i+1]? = some 10)∧(b[i]? = some 10→(if i=0 then some p else b[i-1]?)=some 13))→Gk p b
 | [],_,_=>trivial
 | x::l,p,h=>by
  refine ⟨fun e => ?_,fun e => ?_,Cs l x fun i hi => ?_⟩
  ·have:=(h 0 (by simp)).1 (by simp [e])
   cases l with
   | nil=>simp at this
   | cons y l=>simpa using this
  ·have:=(h 0 (by simp)).2 (by simp [e])
   simpa using this
  ·have:=h (i+1) (by simp; omega)
   refine ⟨fun e=>by simpa using this.1 (by simpa using e),fun e => ?_⟩
   have h2:=this.2 (by simpa using e)
   rw [if_neg (by omega)] at h2
   cases i with
   | zero=>simpa using h2
   | succ i=>simpa using h2
theorem FA {b:List Int} (h:∀ i,i<b.length→(!DP b i)=true):Gk 0 b:=by
 refine Cs b 0 fun i hi => ?_
 have h1:=h i hi
 simp only [DP,Bool.not_eq_true'] at h1
 refine ⟨fun e => ?_,fun e => ?_⟩
 ·rw [if_pos e,decide_eq_false_iff_not,Classical.not_not] at h1; exact h1
 ·rw [e] at h1
  rw [if_neg (by simp),if_pos rfl,decide_eq_false_iff_not,not_or,Classical.not_not] at h1
  rw [if_neg h1.1]; exact h1.2
theorem oo {b:List Int} {i:Nat} (h:i<b.length):b[i]? = some b[i]:=List.getElem?_eq_getElem h
theorem vk (b:List Int) {i:Nat} (hi:i<b.length) (hl:b.length<4611686018427387904) :
  ((fh (i:Int) b.length).bind fun v2 =>
     (cA b v2).bind fun v3 =>
     cond ((v3==13))
      ((some (IntKind.i64.wrap ((i:Int)+1))).bind fun v4 =>
      cond ((decide ((b.length:Int)≤v4)))
       (some (.inl true))
       ((some (IntKind.i64.wrap ((i:Int)+1))).bind fun v5 =>
       (fh v5 b.length).bind fun v6 =>
       (cA b v6).bind fun v7 =>
       cond ((v7 != 10))
        (some (.inl true))
        ((fh (i:Int) b.length).bind fun v8 =>
        (cA b v8).bind fun v9 =>
        cond ((v9==10))
         (cond (((i:Int)==0))
          (some (.inl true))
          ((some (IntKind.i64.wrap ((i:Int)-1))).bind fun v10 =>
          (fh v10 b.length).bind fun v11 =>
          (cA b v11).bind fun v12 =>
          some (.inl (v12 != 13))))
         (some (.inl false)))))
      ((fh (i:Int) b.length).bind fun v13 =>
      (cA b v13).bind fun v14 =>
      cond ((v14==10))
       (cond (((i:Int)==0))
        (some (.inl true))
        ((some (IntKind.i64.wrap ((i:Int)-1))).bind fun v15 =>
        (fh v15 b.length).bind fun v16 =>
        (cA b v16).bind fun v17 =>
        some (.inl (v17 != 13))))
       (some (.inl false))):Option (Bool⊕((Int)⊕((Unit)⊕Bool))))=some (.inl (DP b i)):=by
 have e0:some (IntKind.i64.wrap ((i:Int)+1))=some ((i+1:Nat):Int):=by rw [nT (by omega) (by omega)]; simp
 refine db (jg hi) (db (gg hi) ?_)
 by_cases h13:b[i]=13
 ·refine cQ (by rw [h13]; rfl) (db e0 ?_)
  unfold DP
  rw [oo hi,if_pos (by rw [h13])]
  by_cases hn:i+1<b.length
  ·refine cK (decide_eq_false (by omega)) (db e0 (db (jg hn) (db (gg hn) ?_)))
   rw [oo hn]
   by_cases h10:b[i+1]=10
   ·refine cK (by rw [h10]; rfl) (db (jg hi) (db (gg hi) (cK (by rw [h13]; rfl) ?_)))
    simp [h10]
   ·refine cQ (by simpa using h10) ?_
    simp [h10]
  ·refine cQ (decide_eq_true (by omega)) ?_
   rw [List.getElem?_eq_none (by omega)]; rfl
 ·refine cK (by simpa using h13) (db (jg hi) (db (gg hi) ?_))
  unfold DP
  rw [oo hi,if_neg (by simpa using h13)]
  by_cases h10:b[i]=10
  ·refine cQ (by rw [h10]; rfl) ?_
   rw [if_pos (by rw [h10])]
   cases i with
   | zero=>rfl
   | succ i =>
    refine cK (by rw [beq_eq_false_iff_ne]; omega) (db (x:=((i:Nat):Int)) (by rw [nT (by omega) (by omega)]; simp) (db (jg (by omega)) (db (gg (by omega)) ?_)))
    rw [show i+1-1=i by omega,oo (by omega)]
    congr 2
    rw [Bool.eq_iff_iff,bne_iff_ne,decide_eq_true_eq]
    simp
  ·refine cK (by simpa using h10) ?_
   rw [if_neg (by simpa using h10)]
theorem Ck (b:List Int) (hb:kC b) (hl:b.length<4294967281):dt b=some false∨(dt b=some true∧∃ ls,(∀ l∈ls,sG l)∧(∀ l∈ls,kC l)∧b=jn ls):=by
 have hloop:=xA (R:=Bool) (f:=fun (s31:Int)=>cond ((decide (s31<(b.length:Int))))
    (bu (S:=Bool) (A:=((Int)⊕((Unit)⊕Bool)))
     ((fh s31 b.length).bind fun v2 =>
     (cA b v2).bind fun v3 =>
     cond ((v3==13))
      ((some (IntKind.i64.wrap (s31+1))).bind fun v4 =>
      cond ((decide ((b.length:Int)≤v4)))
       (some (.inl true))
       ((some (IntKind.i64.wrap (s31+1))).bind fun v5 =>
       (fh v5 b.length).bind fun v6 =>
       (cA b v6).bind fun v7 =>
       cond ((v7 != 10))
        (some (.inl true))
        ((fh s31 b.length).bind fun v8 =>
        (cA b v8).bind fun v9 =>
        cond ((v9==10))
         (cond ((s31==0))
          (some (.inl true))
          ((some (IntKind.i64.wrap (s31-1))).bind fun v10 =>
          (fh v10 b.length).bind fun v11 =>
          (cA b v11).bind fun v12 =>
          some (.inl (v12 != 13))))
         (some (.inl false)))))
      ((fh s31 b.length).bind fun v13 =>
      (cA b v13).bind fun v14 =>
      cond ((v14==10))
       (cond ((s31==0))
        (some (.inl true))
        ((some (IntKind.i64.wrap (s31-1))).bind fun v15 =>
        (fh v15 b.length).bind fun v16 =>
        (cA b v16).bind fun v17 =>
        some (.inl (v17 != 13))))
       (some (.inl false))))
     (fun (s45:Bool) =>
      cond (s45)
       (some (.inr (.inr (false))))
       ((some (IntKind.i64.wrap (s31+1))).bind fun v23 =>
       some (.inl v23))) some)
    (some (.inr (.inl ())))) (fun i => !DP b i) b.length false (fuel:=kB) (by unfold kB; omega)
  (fun i hi hp=>cQ (decide_eq_true (by omega)) (fG (s:=DP b i) (vk b hi (by omega)) (cK (by simpa using hp) (db (iA (by omega) (by omega)) rfl))))
  (fun i hi hp=>cQ (decide_eq_true (by omega)) (fG (s:=DP b i) (vk b hi (by omega)) (cQ (by simpa using hp) rfl)))
  (cK (decide_eq_false (by omega)) rfl)
 by_cases hall:∀ i,i<b.length→(!DP b i)=true
 ·rw [if_pos hall] at hloop
  have ho:=FA hall
  cases hbn:b with
  | nil=>right; subst hbn; exact ⟨rfl,[],fun l hl=>by simp at hl,fun l hl=>by simp at hl,rfl⟩
  | cons y t =>
   rw [← hbn]
   have hpos:0<b.length:=by rw [hbn]; simp
   have hlast:b.getLast? = some (b[b.length-1]'(by omega)):=by rw [List.getLast?_eq_getElem?,oo (by omega)]
   have key:dt b=some (b[b.length-1]'(by omega)==10):=by
    unfold dt
    refine fG (s:=()) hloop (fG (s:=(b[b.length-1]'(by omega)==10)) (cK (by rw [beq_eq_false_iff_ne]; omega) (db (x:=((b.length-1:Nat):Int)) (by rw [nT (by omega) (by omega)]; congr 1; omega) (db (jg (by omega)) (db (gg (by omega)) rfl)))) rfl)
   by_cases h10:b[b.length-1]'(by omega)=10
   ·right
    rw [key,h10]
    obtain ⟨ls,h1,h2⟩:=uC b.length b 0 (Nat.le_refl _) ho (by decide) (.inr (by rw [hlast,h10]))
    exact ⟨rfl,ls,h1,FF (by rw [← h2]; exact hb),h2⟩
   ·left
    rw [key,beq_eq_false_iff_ne.2 h10]
 ·rw [if_neg hall] at hloop
  left
  unfold dt
  exact DF (a:=false) hloop rfl
def tY (x:Int):Bool := !(x==13||x==10)
theorem xw (a:List Int) {i:Nat} (hi:i<a.length) :
  ((fh (i:Int) a.length).bind fun v7 =>
        (cA a v7).bind fun v8 =>
        cond ((v8==13))
         (some (.inl true))
         ((fh (i:Int) a.length).bind fun v9 =>
         (cA a v9).bind fun v10 =>
         some (.inl (v10==10))):Option (Bool⊕((Int)⊕((Unit)⊕Bool))))=some (.inl (!tY (a[i]'hi))):=by
 refine db (jg hi) (db (gg hi) ?_)
 unfold tY
 by_cases h:a[i]=13
 ·exact cQ (by rw [h]; rfl) (by simp [h])
 ·have h2:(a[i]==13)=false:=beq_eq_false_iff_ne.2 h
  refine cK h2 (db (jg hi) (db (gg hi) ?_))
  rw [h2]; simp
theorem CM (a:List Int) (hl:a.length<4611686018427387904) :
  cz (S:=(Int)) (O:=(Unit)⊕Bool) (fun (s24:Int) =>
      cond ((decide (s24<(a.length:Int))))
       (bu (S:=Bool) (A:=((Int)⊕((Unit)⊕Bool)))
        ((fh s24 a.length).bind fun v7 =>
        (cA a v7).bind fun v8 =>
        cond ((v8==13))
         (some (.inl true))
         ((fh s24 a.length).bind fun v9 =>
         (cA a v9).bind fun v10 =>
         some (.inl (v10==10))))
        (fun (s38:Bool) =>
         cond (s38)
          (some (.inr (.inr (true))))
          ((some (IntKind.i64.wrap (s24+1))).bind fun v16 =>
          some (.inl v16))) some)
       (some (.inr (.inl ()))))
      kB 0=some (if ∀ i,i<a.length→(a[i]?.all tY)=true then .inl () else .inr true):=by
 refine xA (fun i=>a[i]?.all tY) a.length true (by unfold kB; omega) (fun i hi hp => ?_) (fun i hi hp => ?_) (cK (decide_eq_false (by omega)) rfl)
 ·rw [oo hi] at hp
  simp only [Option.all_some] at hp
  exact cQ (decide_eq_true (by omega)) (fG (xw a hi) (cK (by rw [hp]; rfl) (db (iA (by omega) (by omega)) rfl)))
 ·rw [oo hi] at hp
  simp only [Option.all_some] at hp
  exact cQ (decide_eq_true (by omega)) (fG (xw a hi) (cQ (by rw [hp]; rfl) rfl))
theorem DH {a:List Int} (h:∀ i,i<a.length→(a[i]?.all tY)=true):sG a:=by
 intro x hx
 obtain ⟨i,hi,rfl⟩:=List.mem_iff_getElem.1 hx
 have:=h i hi
 rw [oo hi] at this
 simp only [Option.all_some,tY,Bool.not_eq_true',Bool.or_eq_false_iff,beq_eq_false_iff_ne] at this
 exact this
end Go.Abs.Sh
