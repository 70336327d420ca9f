import Derived.Test.YtofbofdggabfiaaGreatDoorPatA
namespace Go.Abs.Sh
set_option linter.unusedVariables false
set_option linter.unusedSimpArgs false
def alB (c:Int):Bool:=decide (48≤c)&&decide (c≤57)||(decide (65≤c)&&decide (c≤90)||decide (97≤c)&&decide (c≤122))
def lbB (c:Int):Bool:=alB c||c==45
def atB (c:Int):Bool:=alB c||[33,35,36,37,38,39,42,43,45,47,61,63,94,95,96,123,124,125,126].contains c
def labB (l:List Int):Bool := !l.isEmpty&&(decide (l.length≤63)&&(l.head? != some 45&&(l.getLast? != some 45&&l.all lbB)))
def atmB (l:List Int):Bool := !l.isEmpty&&l.all atB
def domB (l:List Int):Bool:=decide (l.length≤255)&&(spl 46 l).all labB
def locB (l:List Int):Bool:=decide (l.length≤64)&&(spl 46 l).all atmB
theorem of_byte (p:Int→Bool) (h:(List.range 256).all (fun k=>p (k:Int))=true) {c:Int} (hc:0≤c∧c<256):p c=true:=by
 have:=List.all_eq_true.1 h c.toNat (List.mem_range.2 (by omega))
 rwa [Int.toNat_of_nonneg hc.1] at this
theorem atom1_all:(List.range 256).all (fun k=>decide (path_atom_1 ((k:Nat):Int)=some (atB ((k:Nat):Int))))=true:=by kernel_rfl
theorem label1_all:(List.range 256).all (fun k=>decide (path_label_1 ((k:Nat):Int)=some (lbB ((k:Nat):Int))))=true:=by kernel_rfl
theorem atom1 {c:Int} (hc:0≤c∧c<256):path_atom_1 c=some (atB c):=by
 simpa using of_byte (fun c=>decide (path_atom_1 c=some (atB c))) atom1_all hc
theorem label1 {c:Int} (hc:0≤c∧c<256):path_label_1 c=some (lbB c):=by
 simpa using of_byte (fun c=>decide (path_label_1 c=some (lbB c))) label1_all hc
theorem all_iff_get (l:List Int) (p:Int→Bool):l.all p=true↔∀ i,i<l.length→p (l.getD i 0)=true:=by
 rw [List.all_eq_true]
 constructor
 ·intro h i hi
  rw [List.getD_eq_getElem?_getD,List.getElem?_eq_getElem hi]
  exact h _ (List.getElem_mem hi)
 ·intro h x hx
  obtain ⟨i,hi,rfl⟩:=List.getElem_of_mem hx
  have:=h i hi
  rw [List.getD_eq_getElem?_getD,List.getElem?_eq_getElem hi] at this
  exact this
theorem chrD {s:ByteArray} {i:Nat} (h:i<s.size):chrO s (i:Int)=some ((sbytes s).getD i 0):=by
 rw [chr_of h,List.getD_eq_getElem?_getD,List.getElem?_eq_getElem (by rw [sbytes_len]; exact h)]; rfl
theorem getD_byte (s:ByteArray) {i:Nat} (h:i<s.size):0≤(sbytes s).getD i 0∧(sbytes s).getD i 0<256:=by
 rw [List.getD_eq_getElem?_getD,List.getElem?_eq_getElem (by rw [sbytes_len]; exact h)]
 exact byt_sbytes s _ (List.getElem_mem _)
theorem all_loop {g:Int→Option Bool} {p:Int→Bool} (s:ByteArray) (hs:s.size<4611686018427387904) (hg:∀ c,0≤c∧c<256→g c=some (p c)) :
  bindS (S:=(Unit)) (A:=Bool)
  (loopF (S:=(Int)) (O:=(Unit)⊕Bool) (fun (s9:Int) =>
   cond ((decide (s9<(s.size:Int))))
    ((chrO s s9).bind fun v2 =>
    (g v2).bind fun v3 =>
    cond ((!v3))
     (some (.inr (.inr (false))))
     ((some (IntKind.i64.wrap (s9+1))).bind fun v5 =>
     some (.inl v5)))
    (some (.inr (.inl ()))))
   BIG 0)
  (fun (():Unit) =>
   some (true)) some=some ((sbytes s).all p):=by
 have hl:=loop_all (R:=Bool) (f:=fun (s9:Int) =>
   cond ((decide (s9<(s.size:Int))))
    ((chrO s s9).bind fun v2 =>
    (g v2).bind fun v3 =>
    cond ((!v3))
     (some (.inr (.inr (false))))
     ((some (IntKind.i64.wrap (s9+1))).bind fun v5 =>
     some (.inl v5)))
    (some (.inr (.inl ())))) (fun i=>p ((sbytes s).getD i 0)) s.size false (fuel:=BIG) (by unfold BIG; omega)
  (fun i hi hp=>cnd_t (decide_eq_true (by omega)) (bnd (chrD hi) (bnd (hg _ (getD_byte s hi)) (cnd_f (by simp only [hp]; rfl) (bnd (by rw [wrap_succ (by omega)]) rfl)))))
  (fun i hi hp=>cnd_t (decide_eq_true (by omega)) (bnd (chrD hi) (bnd (hg _ (getD_byte s hi)) (cnd_t (by simp only [hp]; rfl) rfl))))
  (cnd_f (decide_eq_false (by omega)) rfl)
 rw [hl]
 have hiff:=all_iff_get (sbytes s) p
 rw [sbytes_len] at hiff
 by_cases hall:∀ i,i<s.size→p ((sbytes s).getD i 0)=true
 ·rw [if_pos hall,hiff.2 hall]; rfl
 ·rw [if_neg hall]
  cases hq:(sbytes s).all p
  ·rfl
  ·exact absurd (hiff.1 hq) hall
theorem isE (s:ByteArray):(s.toList==(⟨#[]⟩:ByteArray).toList)=(sbytes s).isEmpty:=by
 rw [toList_beq,Bool.eq_iff_iff,decide_eq_true_eq,str_eq_iff]
 simp [sbytes]
theorem atom_eq (s:ByteArray) (hs:s.size<4611686018427387904):path_atom s=some (atmB (sbytes s)):=by
 unfold path_atom atmB
 rw [isE]
 cases (sbytes s).isEmpty
 ·exact bndL (s:=(sbytes s).all atB) (cnd_t rfl (bnd (all_loop s hs fun c hc=>atom1 hc) rfl)) rfl
 ·exact bndL (s:=false) (cnd_f rfl rfl) rfl
theorem last_getD {l:List Int} (h:l≠[]):l.getLast? = some (l.getD (l.length-1) 0):=by
 have:0<l.length:=List.length_pos_iff.2 h
 rw [List.getLast?_eq_getElem?,List.getD_eq_getElem?_getD,List.getElem?_eq_getElem (by omega)]
 rfl
theorem head_getD {l:List Int} (h:l≠[]):l.head? = some (l.getD 0 0):=by
 cases l with
 | nil=>exact absurd rfl h
 | cons x l=>rfl
theorem label_eq (s:ByteArray) (hs:s.size<4611686018427387904):path_label s=some (labB (sbytes s)):=by
 unfold path_label labB
 rw [isE]
 cases he:(sbytes s).isEmpty
 ·have hne:sbytes s≠[]:=by intro e; rw [e] at he; cases he
  have hpos:0<s.size:=by rw [← sbytes_len]; exact List.length_pos_iff.2 hne
  rw [last_getD hne,head_getD hne,sbytes_len]
  by_cases h1:s.size≤63
  ·have d1:decide ((s.size:Int)≤63)=true:=decide_eq_true (by omega)
   have c0:=chrD (s:=s) (i:=0) hpos
   have c1:=chrD (s:=s) (i:=s.size-1) (by omega)
   have e1:((s.size-1:Nat):Int)=(s.size:Int)-1:=by omega
   rw [e1] at c1
   by_cases h2:(sbytes s).getD 0 0=45
   ·refine bndL (s:=false) (cnd_t rfl (cnd_t d1 (bnd c0 (cnd_f (by rw [h2]; rfl) rfl)))) ?_
    rw [h2]; simp
   ·by_cases h3:(sbytes s).getD (s.size-1) 0=45
    ·refine bndL (s:=false) (cnd_t rfl (cnd_t d1 (bnd c0 (cnd_t (by simpa using h2) (bnd (wrap_i (by omega) (by omega)) (bnd c1 (cnd_f (by rw [h3]; rfl) rfl))))))) ?_
     rw [h3]; simp
    ·refine bndL (s:=(sbytes s).all lbB) (cnd_t rfl (cnd_t d1 (bnd c0 (cnd_t (by simpa using h2) (bnd (wrap_i (by omega) (by omega)) (bnd c1 (cnd_t (by simpa using h3) (bnd (all_loop s hs fun c hc=>label1 hc) rfl)))))))) ?_
     have x2:(some ((sbytes s).getD 0 0) != some 45)=true:=by simpa using h2
     have x3:(some ((sbytes s).getD (s.size-1) 0) != some 45)=true:=by simpa using h3
     rw [x2,x3,decide_eq_true h1]; rfl
  ·refine bndL (s:=false) (cnd_t rfl (cnd_f (decide_eq_false (by omega)) rfl)) ?_
   rw [decide_eq_false h1]; rfl
 ·exact bndL (s:=false) (cnd_f rfl rfl) rfl
theorem dotted_eq {f:ByteArray→Option Bool} {P:List Int→Bool} (s:ByteArray) (hs:s.size<4611686018427387904) (hf:∀ x,x.size≤s.size→f x=some (P (sbytes x))) :
  (strings_SplitSeq s (⟨#[46]⟩:ByteArray)).bind (fun v1 =>
  bindS (S:=(Unit)) (A:=(Unit))
  (rangeS (S:=(Unit)) (O:=(Unit)) (fun Y st=>Sh.strings_splitSeq_1 Y v1.1 v1.2.1 v1.2.2 st) (fun (x:ByteArray) (():Unit) =>
   (f x).bind fun v2 =>
   cond ((!v2))
    (some (.inr ()))
    (some (.inl ())))
   ())
  (fun (():Unit) =>
   some (true))
  (fun (():Unit) =>
   some (false)))=some ((spl 46 (sbytes s)).all P):=by
 refine bnd (x:=(⟨#[46]⟩,s,0)) rfl ?_
 have hle:∀ (c:Int) (l:List Int),∀ p∈spl c l,p.length≤l.length:=by
  intro c l
  induction l with
  | nil=>intro p hp; simp [spl] at hp; simp [hp]
  | cons x l ih =>
   intro p hp
   unfold spl at hp
   split at hp
   ·simp only [List.mem_cons] at hp
    rcases hp with rfl | hp
    ·simp
    ·have:=ih p hp; simp; omega
   ·split at hp
    ·simp at hp; subst hp; simp
    ·rename_i q qs e
     simp only [List.mem_cons] at hp
     rcases hp with rfl | hp
     ·have:=ih q (by rw [e]; simp); simp; omega
     ·have:=ih p (by rw [e]; simp [hp]); simp; omega
 have hby:∀ (c:Int) (l:List Int),byt l→∀ p∈spl c l,byt p:=by
  intro c l
  induction l with
  | nil=>intro _ p hp; simp [spl] at hp; subst hp; intro x hx; cases hx
  | cons x l ih =>
   intro hb p hp
   have hb':byt l:=fun y hy=>hb y (by simp [hy])
   unfold spl at hp
   split at hp
   ·simp only [List.mem_cons] at hp
    rcases hp with rfl | hp
    ·intro x hx; cases hx
    ·exact ih hb' p hp
   ·split at hp
    ·simp at hp; subst hp; intro y hy; simp at hy; subst hy; exact hb _ (by simp)
    ·rename_i q qs e
     simp only [List.mem_cons] at hp
     rcases hp with rfl | hp
     ·intro y hy
      simp only [List.mem_cons] at hy
      rcases hy with rfl | hy
      ·exact hb _ (by simp)
      ·exact ih hb' q (by rw [e]; simp) y hy
     ·exact ih hb' p (by rw [e]; simp [hp])
 have hfol:∀ l:List (List Int),(∀ p∈l,byt p∧p.length≤s.size)→folS (fun (x:ByteArray) (():Unit) =>
   (f x).bind fun v2 =>
   cond ((!v2))
    (some (.inr ()))
    (some (.inl ()))) (l.map bstr) ()=some (if l.all P then .inl () else .inr ()):=by
  intro l
  induction l with
  | nil=>intro _; rfl
  | cons p l ih =>
   intro h
   have hp:=h p (by simp)
   have e1:=hf (bstr p) (by rw [bstr_size]; exact hp.2)
   rw [sbytes_bstr hp.1] at e1
   rw [List.map_cons]
   unfold folS
   simp only [e1,Option.bind_some]
   cases hP:P p
   ·simp [hP]
   ·simp only [Bool.not_true,cond_false,List.all_cons,hP,Bool.true_and]
    exact ih fun q hq=>h q (by simp [hq])
 have:=split_range 46 (by omega) (fun (x:ByteArray) (():Unit) =>
   (f x).bind fun v2 =>
   cond ((!v2))
    (some (.inr ()))
    (some (.inl ()))) s () hs _ (hfol (spl 46 (sbytes s)) fun p hp=>⟨hby _ _ (byt_sbytes s) p hp,by have:=hle _ _ p hp; rwa [sbytes_len] at this⟩)
 change bindS (rangeS (fun Y st=>strings_splitSeq_1 Y ⟨#[UInt8.ofNat 46]⟩ s 0 st) _ ()) _ _=_
 rw [this]
 cases hq:(spl 46 (sbytes s)).all P
 ·rfl
 ·rfl
theorem dom_eq (s:ByteArray) (hs:s.size<4611686018427387904):path_Domain s=some (domB (sbytes s)):=by
 unfold path_Domain domB
 rw [sbytes_len]
 by_cases h:s.size≤255
 ·refine bndL (s:=(spl 46 (sbytes s)).all labB) (cnd_t (decide_eq_true (by omega)) (bnd (x:=(spl 46 (sbytes s)).all labB) ?_ rfl)) (by rw [decide_eq_true h]; rfl)
  exact dotted_eq s hs fun x hx=>label_eq x (by omega)
 ·exact bndL (s:=false) (cnd_f (decide_eq_false (by omega)) rfl) (by rw [decide_eq_false h]; rfl)
theorem loc_eq (s:ByteArray) (hs:s.size<4611686018427387904):path_local s=some (locB (sbytes s)):=by
 unfold path_local locB
 rw [sbytes_len]
 by_cases h:s.size≤64
 ·refine bndL (s:=(spl 46 (sbytes s)).all atmB) (cnd_t (decide_eq_true (by omega)) (bnd (x:=(spl 46 (sbytes s)).all atmB) ?_ rfl)) (by rw [decide_eq_true h]; rfl)
  exact dotted_eq s hs fun x hx=>atom_eq x (by omega)
 ·exact bndL (s:=false) (cnd_f (decide_eq_false (by omega)) rfl) (by rw [decide_eq_false h]; rfl)
def patB (p:T_Path):Bool:=cond p.Null ((sbytes p.Local).isEmpty&&(sbytes p.Domain).isEmpty) (locB (sbytes p.Local)&&domB (sbytes p.Domain))
structure Small (p:T_Path):Prop where
 l:p.Local.size<1152921504606846976
 d:p.Domain.size<1152921504606846976
theorem check_eq (p:T_Path) (h:Small p):path_Check p=some (cond (patB p) 0 5):=by
 unfold path_Check patB
 have hl:=h.l; have hd:=h.d
 rw [isE,isE]
 cases hn:p.Null
 ·refine bndL (s:=locB (sbytes p.Local)&&domB (sbytes p.Domain)) (cnd_t rfl (bnd (loc_eq p.Local (by omega)) ?_)) ?_
  ·cases locB (sbytes p.Local)
   ·rfl
   ·exact cnd_t rfl (bnd (dom_eq p.Domain (by omega)) rfl)
  ·simp only [cond_false]
   cases locB (sbytes p.Local)&&domB (sbytes p.Domain) <;> rfl
 ·refine bndL (s:=false) rfl ?_
  simp only [cond_true]
  cases (sbytes p.Local).isEmpty <;> cases (sbytes p.Domain).isEmpty <;> rfl
end Go.Abs.Sh
