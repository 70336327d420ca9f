import Derived.Test.YtjnnkhmhjcjhdaaGreatDoorGatD
namespace Go.Abs.Sh
set_option linter.unusedVariables false
set_option linter.unusedSimpArgs false
set_option maxRecDepth 100000
/-! A body,byte by byte. -/
def su (l:List Int):Bool:=decide (l=[46,13,10])||decide (5≤l.length∧l.drop (l.length-5)=[13,10,46,13,10])
theorem qC {a:List Int} (h:kC a) (s:ByteArray):((iY a).toList==s.toList)=decide (a=cr s):=by
 rw [tD,Bool.eq_iff_iff,decide_eq_true_eq,decide_eq_true_eq,xO,rM h]
theorem Ba {l:List Int} (h:kC l) (hl:l.length<1000000):fI l [13,10,46,13,10]=some (decide (5≤l.length∧l.drop (l.length-5)=[13,10,46,13,10])):=by
 unfold fI
 by_cases h5:5≤l.length
 ·refine fG (s:=decide (5≤l.length∧l.drop (l.length-5)=[13,10,46,13,10])) (cQ (decide_eq_true (by show ((5:Nat):Int)≤(l.length:Int); omega)) (db (x:=((l.length-5:Nat):Int)) ?_ (db (x:=l.drop (l.length-5)) ?_ (db (x:=decide (l.drop (l.length-5)=[13,10,46,13,10])) ?_ ?_)))) rfl
  ·show some (IntKind.i64.wrap ((l.length:Int)-((5:Nat):Int)))=_
   rw [qN (by omega) (by omega)]; congr 1; omega
  ·rw [qj l (by omega) (Nat.le_refl _),List.take_of_length_le (by rw [List.length_drop]; omega)]
  ·unfold jV
   refine db rfl (db rfl (congrArg some ?_))
   rw [qC (wX h _)]; rfl
  ·congr 2
   rw [Bool.eq_iff_iff,decide_eq_true_eq,decide_eq_true_eq]
   exact ⟨fun e=>⟨h5,e⟩,fun e=>e.2⟩
 ·refine fG (s:=false) (cK (decide_eq_false (by show ¬ ((5:Nat):Int)≤(l.length:Int); omega)) rfl) ?_
  rw [decide_eq_false (fun e=>h5 e.1)]
theorem uQ {i t x:Int} {g:bp} {o:List bi} (h4:g.Phase=4) (hb:kC g.Buf) (hl:g.Buf.length<1000000):cn (SG i t g o) x=some (su g.Buf,SG i t g o):=by
 unfold cn
 refine cQ (beq_iff_eq.2 h4) ?_
 unfold su
 have e:=qC hb (⟨#[46,13,10]⟩:ByteArray)
 have e2:cr (⟨#[46,13,10]⟩:ByteArray)=[46,13,10]:=rfl
 rw [e2] at e
 by_cases h:g.Buf=[46,13,10]
 ·rw [decide_eq_true h] at e
  rw [decide_eq_true h]
  exact fG (s:=true) (db rfl (cQ e rfl)) rfl
 ·rw [decide_eq_false h] at e
  rw [decide_eq_false h]
  exact fG (s:=decide (5≤g.Buf.length∧g.Buf.drop (g.Buf.length-5)=[13,10,46,13,10])) (db rfl (cK e (db (Ba hb hl) rfl))) rfl
theorem EC {i t:Int} {g:bp} {o:List bi} (h4:g.Phase=4) (D:List Int) (hb:kC D) (hl:D.length<90000):∀ n,n≤D.length→(∀ k,0<k→k≤n→su (D.take k)=false)→FR i t (jy g [],o) (D.take n) (jy g (D.take n),o):=by
 intro n
 induction n with
 | zero=>intro _ _; rw [List.take_zero]; exact .nil _
 | succ n ih =>
  intro hn hk
  have h1:=ih (by omega) (fun k h0 h=>hk k h0 (by omega))
  have e:D.take (n+1)=D.take n++[D[n]]:=by rw [List.take_add_one,List.getElem?_eq_getElem (by omega)]; rfl
  have hx:=hk (n+1) (by omega) (Nat.le_refl _)
  have hb':=CJ hb (n+1)
  rw [e] at hx hb' ⊢
  refine h1.app (.one ⟨by show (D.take n).length<_; rw [List.length_take]; omega,false,?_,rfl⟩)
  rw [if_neg (by decide)]
  refine (uQ (g:=jy g (D.take n++[D[n]])) h4 hb' (by show (D.take n++[D[n]]).length<_; rw [List.length_append,List.length_take]; show min n D.length+1<_; omega)).trans ?_
  exact congrArg (fun c=>some (c,SG i t (jy g (D.take n++[D[n]])) o)) hx
theorem Ae:∀ {q t:List Int} {e:Nat},fi (q++13::10::t)=some e→e≤q.length∧e+1≠q.length
 | [],t,e,h=>by
  have:e=0:=by
   have h2:fi (13::10::t)=some 0:=by unfold fi; exact if_pos ⟨rfl,rfl⟩
   exact Option.some.inj (h.symm.trans h2)
  subst this; exact ⟨Nat.le_refl _,by decide⟩
 | x::q,t,e,h=>by
  rw [List.cons_append] at h
  unfold fi at h
  split at h
  ·rename_i hc
   cases h
   refine ⟨Nat.zero_le _,fun hz => ?_⟩
   have hq:q=[]:=by simp only [List.length_cons] at hz; exact List.eq_nil_of_length_eq_zero (by omega)
   subst hq
   have:=hc.2
   simp at this
  ·cases hi:fi (q++13::10::t) with
   | none=>rw [hi] at h; cases h
   | some k =>
    rw [hi] at h
    have:k+1=e:=Option.some.inj h
    have h1:=Ae hi
    simp only [List.length_cons]
    omega
theorem zd {b:List Int} {ls:List (List Int)} {r:List Int} (H:uh b ls r):∀ q t,(q=[]∨∃ q',q=q'++[13,10])→b=q++t→∃ k,uh t (ls.drop k) r:=by
 induction H with
 | @nil b h =>
  rintro q t (rfl | ⟨q',rfl⟩) e
  ·exact ⟨0,by rw [List.nil_append] at e; rw [← e]; exact .nil h⟩
  ·exfalso
   have e':b=q'++13::10::t:=by rw [e]; simp
   rw [e'] at h
   clear e e'
   induction q' with
   | nil =>
    have h2:fi (13::10::t)=some 0:=by unfold fi; exact if_pos ⟨rfl,rfl⟩
    have h3:=h.symm.trans h2
    cases h3
   | cons x q' ih =>
    rw [List.cons_append] at h
    unfold fi at h
    split at h
    ·cases h
    ·cases hi:fi (q'++13::10::t) with
     | none=>exact ih hi
     | some k=>rw [hi] at h; cases h
 | @cons b e ls r h H ih =>
  rintro q t (rfl | ⟨q',rfl⟩) he
  ·exact ⟨0,by rw [List.nil_append] at he; rw [← he]; exact .cons h H⟩
  ·have e':b=q'++13::10::t:=by rw [he]; simp
   rw [e'] at h
   obtain ⟨h1,h2⟩:=Ae h
   by_cases hq:e=q'.length
   ·refine ⟨1,?_⟩
    have:b.drop (e+2)=t:=by rw [e',hq,List.drop_append]; simp
    rw [this] at H
    exact H
   ·obtain ⟨k,hk⟩:=ih (q'.drop (e+2)++[13,10]) t (.inr ⟨_,rfl⟩) (by
     rw [e',List.drop_append_of_le_length (by omega)]; simp)
    exact ⟨k+1,hk⟩
theorem BA {l:List Int} (h:su l=true):∃ q,l=q++[46,13,10]∧(q=[]∨∃ q',q=q'++[13,10]):=by
 unfold su at h
 rw [Bool.or_eq_true,decide_eq_true_eq,decide_eq_true_eq] at h
 rcases h with rfl | ⟨h1,h2⟩
 ·exact ⟨[],rfl,.inl rfl⟩
 ·refine ⟨l.take (l.length-5)++[13,10],?_,.inr ⟨_,rfl⟩⟩
  have:=List.take_append_drop (l.length-5) l
  rw [h2] at this
  rw [← this]; simp
theorem Bq {D:List Int} {L:List (List Int)} (H:uh D (L++[[46]]) []) (hL:∀ l∈L,l≠[46]) {k:Nat} (hk:k<D.length):su (D.take k)=false:=by
 cases h:su (D.take k) with
 | false=>rfl
 | true =>
  exfalso
  obtain ⟨q,h1,h2⟩:=BA h
  have e:D=q++([46,13,10]++D.drop k):=by
   have:=List.take_append_drop k D
   rw [h1,List.append_assoc] at this
   exact this.symm
  obtain ⟨j,hj⟩:=zd H q _ h2 e
  have hi:fi ([46,13,10]++D.drop k)=some 1:=mf (line:=[46]) (rest:=D.drop k) (fun x hx=>by rw [List.mem_singleton.1 hx]; decide)
  generalize hm:(L++[[46]]).drop j=ms at hj
  cases hj with
  | @cons _ e2 ms' _ h0 H2 =>
   rw [hi] at h0
   have e3:e2=1:=(Option.some.inj h0).symm
   subst e3
   have h46:(L++[[46]])[j]? = some [46]:=by
    have:=congrArg (fun l:List (List Int)=>l[0]?) hm
    simpa [List.getElem?_drop] using this
   have hj2:j=L.length:=by
    by_cases hlt:j<L.length
    ·rw [List.getElem?_append_left hlt,List.getElem?_eq_getElem hlt] at h46
     exact absurd (Option.some.inj h46) (hL _ (List.getElem_mem hlt))
    ·have:=(List.getElem?_eq_some_iff.1 h46).1
     rw [List.length_append] at this
     have h1:([[46]]:List (List Int)).length=1:=rfl
     omega
   have hms:ms'=[]:=by
    rw [hj2,List.drop_left] at hm
    exact (List.cons.inj hm).2.symm
   subst hms
   have hd:([46,13,10]++D.drop k).drop (1+2)=D.drop k:=rfl
   rw [hd] at H2
   generalize hz:D.drop k=z at H2
   cases H2 with
   | nil h5 =>
    have:=congrArg List.length hz
    rw [List.length_drop] at this
    simp only [List.length_nil] at this
    omega
theorem FN {i t:Int} {g:bp} {o:List bi} {code:Int} (hc:code≠334):cZ (SG i t g o) code=some ((jS code).Reply,SG i t g o):=by
 unfold cZ
 by_cases h:200≤code∧code<400
 ·refine fG (s:=(⟨#[111,107]⟩:ByteArray)) (cK (beq_eq_false_iff_ne.2 hc) (db (x:=true) ?_ rfl)) (by unfold jS; rw [if_pos h]; rfl)
  exact fG (s:=true) (cQ (decide_eq_true h.1) (by rw [decide_eq_true h.2])) rfl
 ·refine fG (s:=(⟨#[110,111]⟩:ByteArray)) (cK (beq_eq_false_iff_ne.2 hc) (db (x:=false) ?_ rfl)) (by unfold jS; rw [if_neg h]; rfl)
  unfold jX
  by_cases h1:200≤code
  ·exact fG (s:=false) (cQ (decide_eq_true h1) (by rw [decide_eq_false (by omega)])) rfl
  ·exact fG (s:=false) (cK (decide_eq_false h1) rfl) rfl
end Go.Abs.Sh
