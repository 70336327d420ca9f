import Derived.Test.YthhebpiaknfnhaaGreatDoorTmS
import Derived.Test.YthhebpiaknfnhaaGreatDoorLineM
import Derived.KernelRfl
namespace Go.Abs.Sh
set_option linter.unusedVariables false
set_option linter.unusedSimpArgs false
set_option maxRecDepth 10000
theorem wadd {a b:Nat} (h:a+b<9223372036854775808):some (IntKind.i64.wrap ((a:Int)+(b:Int)))=some ((a+b:Nat):Int):=by
 rw [wrap_i64 (by omega) (by omega)]; simp
def pW (p:T_Path):Nat:=p.Local.size+p.Domain.size
def psum:List T_Path→Nat
 | []=>0
 | p::l=>pW p+psum l
def mW (m:T_Mail):Nat:=m.Body.length+m.Helo.size+m.From.Local.size+m.From.Domain.size+psum m.To
theorem pW_le_psum {p:T_Path}:∀ {l:List T_Path},p∈l→pW p≤psum l
 | x::l,h=>by
  rcases List.mem_cons.1 h with rfl | h
  ·simp only [psum]; omega
  ·have:=pW_le_psum h; simp only [psum]; omega
def LM (m:T_Mail):Prop:=m.To.length≤40∧mW m≤20000
def LR (r:T_Rec):Prop:=r.Data.length≤600∧r.Ids.length≤60∧LM r.Mail
def idx1 (c:Int):List Int→Option Nat
 | []=>none
 | x::l=>if x=c then some 0 else (idx1 c l).map (· + 1)
theorem idx1_none {c:Int}:∀ {l:List Int},idx1 c l=none↔c ∉ l
 | []=>by simp [idx1]
 | x::l=>by
  have ih:=idx1_none (c:=c) (l:=l)
  unfold idx1
  by_cases h:x=c
  ·simp [h]
  ·rw [if_neg h]
   simp only [Option.map_eq_none_iff,ih,List.mem_cons,not_or]
   exact ⟨fun h2=>⟨fun e=>h e.symm,h2⟩,fun h2=>h2.2⟩
theorem idx1_some {c:Int}:∀ {l:List Int} {e:Nat},idx1 c l=some e→e+1≤l.length∧l=l.take e++c::l.drop (e+1)∧c ∉ l.take e
 | [],e,h=>by simp [idx1] at h
 | x::l,e,h=>by
  unfold idx1 at h
  split at h
  ·rename_i hx
   cases h; subst hx; simp
  ·rename_i hx
   cases hi:idx1 c l with
   | none=>simp [hi] at h
   | some k =>
    simp [hi] at h
    subst h
    obtain ⟨h1,h2,h3⟩:=idx1_some hi
    refine ⟨by simp; omega,?_,?_⟩
    ·simp only [List.take_succ_cons,List.cons_append,List.drop_succ_cons]
     rw [← h2]
    ·simp only [List.take_succ_cons,List.mem_cons,not_or]
     exact ⟨fun e=>hx e.symm,h3⟩
theorem indexByte_eq {n:Nat} (hn:n<256):∀ (l:List UInt8),Lib.indexByte l (UInt8.ofNat n)=match idx1 (n:Int) (l.map fun b=>(b.toNat:Int)) with | none => -1 | some e=>(e:Int)
 | []=>rfl
 | b::l=>by
  have ih:=indexByte_eq hn l
  unfold Lib.indexByte
  rw [List.map_cons]
  unfold idx1
  have hb:(b==UInt8.ofNat n)=decide ((b.toNat:Int)=(n:Int)):=by
   rw [Bool.eq_iff_iff,decide_eq_true_eq,beq_iff_eq]
   constructor
   ·rintro rfl; simp; omega
   ·intro h
    apply UInt8.toNat_inj.1
    simp; omega
  rw [hb]
  by_cases h:(b.toNat:Int)=(n:Int)
  ·rw [if_pos (decide_eq_true h),if_pos h]; rfl
  ·rw [if_neg (by simpa using h),if_neg h,ih]
   cases idx1 (n:Int) (l.map fun b=>(b.toNat:Int)) with
   | none=>rfl
   | some k =>
    have:((k:Int) == -1)=false:=beq_eq_false_iff_ne.2 (by omega)
    simp only [this,Bool.false_eq_true,if_false,Option.map_some]
    rfl
theorem sIndex {n:Nat} (hn:n<256) (s:ByteArray):strings_Index s ⟨#[UInt8.ofNat n]⟩=some (match idx1 (n:Int) (sbytes s) with | none => -1 | some e=>(e:Int)):=by
 unfold strings_Index
 have:=indexByte_eq hn s.data.toList
 simp only [this]
 rfl
def spl (c:Int):List Int→List (List Int)
 | []=>[[]]
 | x::l=>if x=c then []::spl c l else match spl c l with
  | []=>[[x]]
  | p::ps=>(x::p)::ps
theorem spl_one {c:Int}:∀ {l:List Int},c ∉ l→spl c l=[l]
 | [],_=>rfl
 | x::l,h=>by
  simp only [List.mem_cons,not_or] at h
  unfold spl
  rw [if_neg (fun e=>h.1 e.symm),spl_one h.2]
theorem spl_app {c:Int}:∀ {p r:List Int},c ∉ p→spl c (p++c::r)=p::spl c r
 | [],r,_=>by simp [spl]
 | x::p,r,h=>by
  simp only [List.mem_cons,not_or] at h
  rw [List.cons_append]
  conv=>lhs; unfold spl
  rw [if_neg (fun e=>h.1 e.symm),spl_app h.2]
def folS {X S O:Type} (step:X→S→Option (S⊕O)):List X→S→Option (S⊕O)
 | [],s=>some (.inl s)
 | x::l,s=>match step x s with
  | none=>none
  | some (.inl s')=>folS step l s'
  | some (.inr o)=>some (.inr o)
def splB (c:Int) (s:ByteArray):List ByteArray:=(spl c (sbytes s)).map bstr
theorem wrap_i {n:Int} (h0 : -9223372036854775808≤n) (h1:n<9223372036854775808):some (IntKind.i64.wrap n)=some n:=by rw [wrap_i64 h0 h1]
theorem split_range {S O:Type} (n:Nat) (hn:n<256) (step:ByteArray→S→Option (S⊕O)) (s:ByteArray) (st:S) (hs:s.size<4611686018427387904) (r:S⊕O) (hr:folS step (splB (n:Int) s) st=some r) :
  rangeS (S:=S) (O:=O) (fun Y st=>strings_splitSeq_1 Y ⟨#[UInt8.ofNat n]⟩ s 0 st) step st=some r:=by
 unfold rangeS strings_splitSeq_1
 refine cnd_f rfl ?_
 have key:∀ (k:Nat) (s:ByteArray) (st:S) (fuel:Nat),s.size=k→k<4611686018427387904→k<fuel→folS step (splB (n:Int) s) st=some r →
   bindS (S:=(ByteArray×(S⊕O))) (A:=S⊕O)
    (loopF (S:=(ByteArray×(S⊕O))) (O:=(ByteArray×(S⊕O))⊕(S⊕O)) (fun ((s37,s38):ByteArray×(S⊕O)) =>
     (strings_Index s37 ⟨#[UInt8.ofNat n]⟩).bind fun v25 =>
     cond ((decide (v25<0)))
      (some (.inr (.inl (s37,s38))))
      ((some (IntKind.i64.wrap (v25+0))).bind fun v27 =>
      (subO s37 0 v27).bind fun v28 =>
      (rangeY step v28 s38).bind fun v29 =>
      cond ((!v29.2))
       (some (.inr (.inr (v29.1))))
       ((some (IntKind.i64.wrap (v25+((⟨#[UInt8.ofNat n]⟩:ByteArray).size:Int)))).bind fun v31 =>
       (subO s37 v31 (s37.size:Int)).bind fun v32 =>
       some (.inl (v32,v29.1)))))
     fuel (s,.inl st))
    (fun ((s41,s42):ByteArray×(S⊕O)) =>
     (rangeY step s41 s42).bind fun v51 =>
     some (v51.1)) some=some r:=by
  intro k
  induction k using Nat.strongRecOn with
  | _ k ih =>
   intro s st fuel hk hb hf hr
   obtain ⟨f,rfl⟩:∃ f,fuel=f+1:=⟨fuel-1,by omega⟩
   cases hi:idx1 (n:Int) (sbytes s) with
   | none =>
    rw [loop_exit (o := .inl (s,.inl st)) (by
     refine bnd (sIndex hn s) ?_
     rw [hi]
     exact cnd_t rfl rfl)]
    have h1:splB (n:Int) s=[s]:=by
     unfold splB
     rw [spl_one (idx1_none.1 hi)]
     simp [bstr_sbytes]
    rw [h1] at hr
    simp only [folS] at hr
    show ((rangeY step s (.inl st)).bind fun v51=>some (v51.1))=some r
    simp only [rangeY]
    cases hst:step s st with
    | none=>rw [hst] at hr; cases hr
    | some u =>
     rw [hst] at hr
     cases u with
     | inl s'=>simpa using hr
     | inr o=>simpa using hr
   | some e =>
    obtain ⟨h1,h2,h3⟩:=idx1_some hi
    rw [sbytes_len] at h1
    have h4:splB (n:Int) s=bstr ((sbytes s).take e)::splB (n:Int) (bstr ((sbytes s).drop (e+1))):=by
     unfold splB
     rw [sbytes_bstr (byt_drop (byt_sbytes s) _)]
     conv=>lhs; rw [h2]
     rw [spl_app h3,List.map_cons]
    rw [h4] at hr
    simp only [folS] at hr
    have e1:subO s 0 (e:Int)=some (bstr ((sbytes s).take e)):=by
     have:=sub_of (s:=s) (a:=0) (b:=e) (by omega) (by omega)
     simpa using this
    have e2:subO s ((e:Int)+1) (s.size:Int)=some (bstr ((sbytes s).drop (e+1))):=by
     have:=sub_of (s:=s) (a:=e+1) (b:=s.size) (by omega) (by omega)
     rw [List.take_of_length_le (by simp [sbytes_len])] at this
     simpa using this
    have w1:some (IntKind.i64.wrap ((e:Int)+0))=some (e:Int):=by rw [wrap_i (by omega) (by omega)]; simp
    have w2:some (IntKind.i64.wrap ((e:Int)+((⟨#[UInt8.ofNat n]⟩:ByteArray).size:Int)))=some ((e:Int)+1):=by
     show some (IntKind.i64.wrap ((e:Int)+1))=_
     rw [wrap_i (by omega) (by omega)]
    have hsz:(bstr ((sbytes s).drop (e+1))).size=s.size-(e+1):=by rw [bstr_size,List.length_drop,sbytes_len]
    cases hst:step (bstr ((sbytes s).take e)) st with
    | none=>rw [hst] at hr; cases hr
    | some u =>
     rw [hst] at hr
     cases u with
     | inl s' =>
      rw [loop_next (s':=(bstr ((sbytes s).drop (e+1)),.inl s')) (by
       refine bnd (sIndex hn s) ?_
       rw [hi]
       refine cnd_f (decide_eq_false (by show ¬ ((e:Int)<0); omega)) (bnd w1 (bnd e1 (bnd (x:=(.inl s',true)) (by simp [rangeY,hst]) (cnd_f rfl (bnd w2 (bnd e2 rfl))))))
       )]
      exact ih _ (by rw [hsz]; omega) _ s' f rfl (by omega) (by omega) hr
     | inr o =>
      rw [loop_exit (o := .inr (.inr o)) (by
       refine bnd (sIndex hn s) ?_
       rw [hi]
       exact cnd_f (decide_eq_false (by show ¬ ((e:Int)<0); omega)) (bnd w1 (bnd e1 (bnd (x:=(.inr o,false)) (by simp [rangeY,hst]) (cnd_t rfl rfl))))
       )]
      exact hr
 exact key _ s st BIG rfl hs (by unfold BIG; omega) hr
def alB (c:Int):Bool:=decide (48≤c)&&decide (c≤57)||(decide (65≤c)&&decide (c≤90)||decide (97≤c)&&decide (c≤122))
def lbB (c:Int):Bool:=alB c||c==45
def atB (c:Int):Bool:=alB c||[33,35,36,37,38,39,42,43,45,47,61,63,94,95,96,123,124,125,126].contains c
def labB (l:List Int):Bool := !l.isEmpty&&(decide (l.length≤63)&&(l.head? != some 45&&(l.getLast? != some 45&&l.all lbB)))
def atmB (l:List Int):Bool := !l.isEmpty&&l.all atB
def domB (l:List Int):Bool:=decide (l.length≤255)&&(spl 46 l).all labB
def locB (l:List Int):Bool:=decide (l.length≤64)&&(spl 46 l).all atmB
theorem of_byte (p:Int→Bool) (h:(List.range 256).all (fun k=>p (k:Int))=true) {c:Int} (hc:0≤c∧c<256):p c=true:=by
 have:=List.all_eq_true.1 h c.toNat (List.mem_range.2 (by omega))
 rwa [Int.toNat_of_nonneg hc.1] at this
theorem atom1_all:(List.range 256).all (fun k=>decide (path_atom_1 ((k:Nat):Int)=some (atB ((k:Nat):Int))))=true:=by kernel_rfl
theorem label1_all:(List.range 256).all (fun k=>decide (path_label_1 ((k:Nat):Int)=some (lbB ((k:Nat):Int))))=true:=by kernel_rfl
theorem atom1 {c:Int} (hc:0≤c∧c<256):path_atom_1 c=some (atB c):=by
 simpa using of_byte (fun c=>decide (path_atom_1 c=some (atB c))) atom1_all hc
theorem label1 {c:Int} (hc:0≤c∧c<256):path_label_1 c=some (lbB c):=by
 simpa using of_byte (fun c=>decide (path_label_1 c=some (lbB c))) label1_all hc
theorem all_iff_get (l:List Int) (p:Int→Bool):l.all p=true↔∀ i,i<l.length→p (l.getD i 0)=true:=by
 rw [List.all_eq_true]
 constructor
 ·intro h i hi
  rw [List.getD_eq_getElem?_getD,List.getElem?_eq_getElem hi]
  exact h _ (List.getElem_mem hi)
 ·intro h x hx
  obtain ⟨i,hi,rfl⟩:=List.getElem_of_mem hx
  have:=h i hi
  rw [List.getD_eq_getElem?_getD,List.getElem?_eq_getElem hi] at this
  exact this
theorem chrD {s:ByteArray} {i:Nat} (h:i<s.size):chrO s (i:Int)=some ((sbytes s).getD i 0):=by
 rw [chr_of h,List.getD_eq_getElem?_getD,List.getElem?_eq_getElem (by rw [sbytes_len]; exact h)]; rfl
theorem getD_byte (s:ByteArray) {i:Nat} (h:i<s.size):0≤(sbytes s).getD i 0∧(sbytes s).getD i 0<256:=by
 rw [List.getD_eq_getElem?_getD,List.getElem?_eq_getElem (by rw [sbytes_len]; exact h)]
 exact byt_sbytes s _ (List.getElem_mem _)
theorem all_loop {g:Int→Option Bool} {p:Int→Bool} (s:ByteArray) (hs:s.size<4611686018427387904) (hg:∀ c,0≤c∧c<256→g c=some (p c)) :
  bindS (S:=(Unit)) (A:=Bool)
  (loopF (S:=(Int)) (O:=(Unit)⊕Bool) (fun (s9:Int) =>
   cond ((decide (s9<(s.size:Int))))
    ((chrO s s9).bind fun v2 =>
    (g v2).bind fun v3 =>
    cond ((!v3))
     (some (.inr (.inr (false))))
     ((some (IntKind.i64.wrap (s9+1))).bind fun v5 =>
     some (.inl v5)))
    (some (.inr (.inl ()))))
   BIG 0)
  (fun (():Unit) =>
   some (true)) some=some ((sbytes s).all p):=by
 have hl:=loop_all (R:=Bool) (f:=fun (s9:Int) =>
   cond ((decide (s9<(s.size:Int))))
    ((chrO s s9).bind fun v2 =>
    (g v2).bind fun v3 =>
    cond ((!v3))
     (some (.inr (.inr (false))))
     ((some (IntKind.i64.wrap (s9+1))).bind fun v5 =>
     some (.inl v5)))
    (some (.inr (.inl ())))) (fun i=>p ((sbytes s).getD i 0)) s.size false (fuel:=BIG) (by unfold BIG; omega)
  (fun i hi hp=>cnd_t (decide_eq_true (by omega)) (bnd (chrD hi) (bnd (hg _ (getD_byte s hi)) (cnd_f (by simp only [hp]; rfl) (bnd (by rw [wrap_succ (by omega)]) rfl)))))
  (fun i hi hp=>cnd_t (decide_eq_true (by omega)) (bnd (chrD hi) (bnd (hg _ (getD_byte s hi)) (cnd_t (by simp only [hp]; rfl) rfl))))
  (cnd_f (decide_eq_false (by omega)) rfl)
 rw [hl]
 have hiff:=all_iff_get (sbytes s) p
 rw [sbytes_len] at hiff
 by_cases hall:∀ i,i<s.size→p ((sbytes s).getD i 0)=true
 ·rw [if_pos hall,hiff.2 hall]; rfl
 ·rw [if_neg hall]
  cases hq:(sbytes s).all p
  ·rfl
  ·exact absurd (hiff.1 hq) hall
theorem isE (s:ByteArray):(s.toList==(⟨#[]⟩:ByteArray).toList)=(sbytes s).isEmpty:=by
 rw [toList_beq,Bool.eq_iff_iff,decide_eq_true_eq,str_eq_iff]
 simp [sbytes]
theorem atom_eq (s:ByteArray) (hs:s.size<4611686018427387904):path_atom s=some (atmB (sbytes s)):=by
 unfold path_atom atmB
 rw [isE]
 cases (sbytes s).isEmpty
 ·exact bndL (s:=(sbytes s).all atB) (cnd_t rfl (bnd (all_loop s hs fun c hc=>atom1 hc) rfl)) rfl
 ·exact bndL (s:=false) (cnd_f rfl rfl) rfl
theorem last_getD {l:List Int} (h:l≠[]):l.getLast? = some (l.getD (l.length-1) 0):=by
 have:0<l.length:=List.length_pos_iff.2 h
 rw [List.getLast?_eq_getElem?,List.getD_eq_getElem?_getD,List.getElem?_eq_getElem (by omega)]
 rfl
theorem head_getD {l:List Int} (h:l≠[]):l.head? = some (l.getD 0 0):=by
 cases l with
 | nil=>exact absurd rfl h
 | cons x l=>rfl
theorem label_eq (s:ByteArray) (hs:s.size<4611686018427387904):path_label s=some (labB (sbytes s)):=by
 unfold path_label labB
 rw [isE]
 cases he:(sbytes s).isEmpty
 ·have hne:sbytes s≠[]:=by intro e; rw [e] at he; cases he
  have hpos:0<s.size:=by rw [← sbytes_len]; exact List.length_pos_iff.2 hne
  rw [last_getD hne,head_getD hne,sbytes_len]
  by_cases h1:s.size≤63
  ·have d1:decide ((s.size:Int)≤63)=true:=decide_eq_true (by omega)
   have c0:=chrD (s:=s) (i:=0) hpos
   have c1:=chrD (s:=s) (i:=s.size-1) (by omega)
   have e1:((s.size-1:Nat):Int)=(s.size:Int)-1:=by omega
   rw [e1] at c1
   by_cases h2:(sbytes s).getD 0 0=45
   ·refine bndL (s:=false) (cnd_t rfl (cnd_t d1 (bnd c0 (cnd_f (by rw [h2]; rfl) rfl)))) ?_
    rw [h2]; simp
   ·by_cases h3:(sbytes s).getD (s.size-1) 0=45
    ·refine bndL (s:=false) (cnd_t rfl (cnd_t d1 (bnd c0 (cnd_t (by simpa using h2) (bnd (wrap_i (by omega) (by omega)) (bnd c1 (cnd_f (by rw [h3]; rfl) rfl))))))) ?_
     rw [h3]; simp
    ·refine bndL (s:=(sbytes s).all lbB) (cnd_t rfl (cnd_t d1 (bnd c0 (cnd_t (by simpa using h2) (bnd (wrap_i (by omega) (by omega)) (bnd c1 (cnd_t (by simpa using h3) (bnd (all_loop s hs fun c hc=>label1 hc) rfl)))))))) ?_
     have x2:(some ((sbytes s).getD 0 0) != some 45)=true:=by simpa using h2
     have x3:(some ((sbytes s).getD (s.size-1) 0) != some 45)=true:=by simpa using h3
     rw [x2,x3,decide_eq_true h1]; rfl
  ·refine bndL (s:=false) (cnd_t rfl (cnd_f (decide_eq_false (by omega)) rfl)) ?_
   rw [decide_eq_false h1]; rfl
 ·exact bndL (s:=false) (cnd_f rfl rfl) rfl
theorem dotted_eq {f:ByteArray→Option Bool} {P:List Int→Bool} (s:ByteArray) (hs:s.size<4611686018427387904) (hf:∀ x,x.size≤s.size→f x=some (P (sbytes x))) :
  (strings_SplitSeq s (⟨#[46]⟩:ByteArray)).bind (fun v1 =>
  bindS (S:=(Unit)) (A:=(Unit))
  (rangeS (S:=(Unit)) (O:=(Unit)) (fun Y st=>Sh.strings_splitSeq_1 Y v1.1 v1.2.1 v1.2.2 st) (fun (x:ByteArray) (():Unit) =>
   (f x).bind fun v2 =>
   cond ((!v2))
    (some (.inr ()))
    (some (.inl ())))
   ())
  (fun (():Unit) =>
   some (true))
  (fun (():Unit) =>
   some (false)))=some ((spl 46 (sbytes s)).all P):=by
 refine bnd (x:=(⟨#[46]⟩,s,0)) rfl ?_
 have hle:∀ (c:Int) (l:List Int),∀ p∈spl c l,p.length≤l.length:=by
  intro c l
  induction l with
  | nil=>intro p hp; simp [spl] at hp; simp [hp]
  | cons x l ih =>
   intro p hp
   unfold spl at hp
   split at hp
   ·simp only [List.mem_cons] at hp
    rcases hp with rfl | hp
    ·simp
    ·have:=ih p hp; simp; omega
   ·split at hp
    ·simp at hp; subst hp; simp
    ·rename_i q qs e
     simp only [List.mem_cons] at hp
     rcases hp with rfl | hp
     ·have:=ih q (by rw [e]; simp); simp; omega
     ·have:=ih p (by rw [e]; simp [hp]); simp; omega
 have hby:∀ (c:Int) (l:List Int),byt l→∀ p∈spl c l,byt p:=by
  intro c l
  induction l with
  | nil=>intro _ p hp; simp [spl] at hp; subst hp; intro x hx; cases hx
  | cons x l ih =>
   intro hb p hp
   have hb':byt l:=fun y hy=>hb y (by simp [hy])
   unfold spl at hp
   split at hp
   ·simp only [List.mem_cons] at hp
    rcases hp with rfl | hp
    ·intro x hx; cases hx
    ·exact ih hb' p hp
   ·split at hp
    ·simp at hp; subst hp; intro y hy; simp at hy; subst hy; exact hb _ (by simp)
    ·rename_i q qs e
     simp only [List.mem_cons] at hp
     rcases hp with rfl | hp
     ·intro y hy
      simp only [List.mem_cons] at hy
      rcases hy with rfl | hy
      ·exact hb _ (by simp)
      ·exact ih hb' q (by rw [e]; simp) y hy
     ·exact ih hb' p (by rw [e]; simp [hp])
 have hfol:∀ l:List (List Int),(∀ p∈l,byt p∧p.length≤s.size)→folS (fun (x:ByteArray) (():Unit) =>
   (f x).bind fun v2 =>
   cond ((!v2))
    (some (.inr ()))
    (some (.inl ()))) (l.map bstr) ()=some (if l.all P then .inl () else .inr ()):=by
  intro l
  induction l with
  | nil=>intro _; rfl
  | cons p l ih =>
   intro h
   have hp:=h p (by simp)
   have e1:=hf (bstr p) (by rw [bstr_size]; exact hp.2)
   rw [sbytes_bstr hp.1] at e1
   rw [List.map_cons]
   unfold folS
   simp only [e1,Option.bind_some]
   cases hP:P p
   ·simp [hP]
   ·simp only [Bool.not_true,cond_false,List.all_cons,hP,Bool.true_and]
    exact ih fun q hq=>h q (by simp [hq])
 have:=split_range 46 (by omega) (fun (x:ByteArray) (():Unit) =>
   (f x).bind fun v2 =>
   cond ((!v2))
    (some (.inr ()))
    (some (.inl ()))) s () hs _ (hfol (spl 46 (sbytes s)) fun p hp=>⟨hby _ _ (byt_sbytes s) p hp,by have:=hle _ _ p hp; rwa [sbytes_len] at this⟩)
 change bindS (rangeS (fun Y st=>strings_splitSeq_1 Y ⟨#[UInt8.ofNat 46]⟩ s 0 st) _ ()) _ _=_
 rw [this]
 cases hq:(spl 46 (sbytes s)).all P
 ·rfl
 ·rfl
theorem dom_eq (s:ByteArray) (hs:s.size<4611686018427387904):path_Domain s=some (domB (sbytes s)):=by
 unfold path_Domain domB
 rw [sbytes_len]
 by_cases h:s.size≤255
 ·refine bndL (s:=(spl 46 (sbytes s)).all labB) (cnd_t (decide_eq_true (by omega)) (bnd (x:=(spl 46 (sbytes s)).all labB) ?_ rfl)) (by rw [decide_eq_true h]; rfl)
  exact dotted_eq s hs fun x hx=>label_eq x (by omega)
 ·exact bndL (s:=false) (cnd_f (decide_eq_false (by omega)) rfl) (by rw [decide_eq_false h]; rfl)
theorem loc_eq (s:ByteArray) (hs:s.size<4611686018427387904):path_local s=some (locB (sbytes s)):=by
 unfold path_local locB
 rw [sbytes_len]
 by_cases h:s.size≤64
 ·refine bndL (s:=(spl 46 (sbytes s)).all atmB) (cnd_t (decide_eq_true (by omega)) (bnd (x:=(spl 46 (sbytes s)).all atmB) ?_ rfl)) (by rw [decide_eq_true h]; rfl)
  exact dotted_eq s hs fun x hx=>atom_eq x (by omega)
 ·exact bndL (s:=false) (cnd_f (decide_eq_false (by omega)) rfl) (by rw [decide_eq_false h]; rfl)
def patB (p:T_Path):Bool:=cond p.Null ((sbytes p.Local).isEmpty&&(sbytes p.Domain).isEmpty) (locB (sbytes p.Local)&&domB (sbytes p.Domain))
structure Small (p:T_Path):Prop where
 l:p.Local.size<1152921504606846976
 d:p.Domain.size<1152921504606846976
theorem check_eq (p:T_Path) (h:Small p):path_Check p=some (cond (patB p) 0 5):=by
 unfold path_Check patB
 have hl:=h.l; have hd:=h.d
 rw [isE,isE]
 cases hn:p.Null
 ·refine bndL (s:=locB (sbytes p.Local)&&domB (sbytes p.Domain)) (cnd_t rfl (bnd (loc_eq p.Local (by omega)) ?_)) ?_
  ·cases locB (sbytes p.Local)
   ·rfl
   ·exact cnd_t rfl (bnd (dom_eq p.Domain (by omega)) rfl)
  ·simp only [cond_false]
   cases locB (sbytes p.Local)&&domB (sbytes p.Domain) <;> rfl
 ·refine bndL (s:=false) rfl ?_
  simp only [cond_true]
  cases (sbytes p.Local).isEmpty <;> cases (sbytes p.Domain).isEmpty <;> rfl
def e0:ByteArray:=⟨#[]⟩
def folL {X S O:Type} (step:X→S→Option (S⊕O)):List X→S→Option (S⊕O)
 | [],s=>some (.inl s)
 | x::l,s=>match step x s with
  | none=>none
  | some (.inl s')=>folL step l s'
  | some (.inr o)=>some (.inr o)
inductive Lns:List Int→List (List Int)→List Int→Prop
 | nil {b:List Int} (h:idx2 b=none):Lns b [] b
 | cons {b:List Int} {e:Nat} {ls:List (List Int)} {r:List Int} (h:idx2 b=some e) (t:Lns (b.drop (e+2)) ls r):Lns b (b.take e::ls) r
theorem wrap_j {n:Int} (h0 : -9223372036854775808≤n) (h1:n<9223372036854775808):some (IntKind.i64.wrap n)=some n:=by rw [wrap_i64 h0 h1]
theorem cut_none {b:List Int} (hb:byt b) (hl:b.length<4294967281) (h:idx2 b=none):bytes_Cut_sh b [13,10]=some (b,[],false):=by
 unfold bytes_Cut_sh
 refine bnd (bytesIndex2 hb hl) ?_
 rw [h]
 rfl
theorem cut_some {b:List Int} (hb:byt b) (hl:b.length<4294967281) {e:Nat} (h:idx2 b=some e):bytes_Cut_sh b [13,10]=some (b.take e,b.drop (e+2),true):=by
 have h1:=(idx2_some h).1
 unfold bytes_Cut_sh
 refine bnd (bytesIndex2 hb hl) ?_
 rw [h]
 refine cnd_t (decide_eq_true (by show (0:Int)≤(e:Int); omega)) ?_
 have e1:sliO b 0 (e:Int)=some (b.take e):=by
  have:=sli_nat b (a:=0) (b:=e) (by omega) (by omega)
  simpa using this
 refine bnd e1 ?_
 refine bnd (x:=((e+2:Nat):Int)) (by
  show some (IntKind.i64.wrap ((e:Int)+2))=_
  rw [wrap_j (by omega) (by omega)]; simp) ?_
 refine bnd (x:=b.drop (e+2)) (by
  rw [sli_nat b (by omega) (by omega),List.take_of_length_le (by simp)]) rfl
theorem lines_range {S O:Type} (step:List Int→S→Option (S⊕O)) {b:List Int} {ls:List (List Int)} {rest:List Int} (H:Lns b ls rest) (hb:byt b) (hl:b.length<4294967281) (st:S) (r:S⊕O) (hr:folL step ls st=some r) :
  rangeS (S:=S) (O:=O) (fun Y st=>dots_lines_1 Y b st) step st=some r:=by
 unfold rangeS dots_lines_1
 have key:∀ (b:List Int) (ls:List (List Int)) (rest:List Int),Lns b ls rest→byt b→b.length<4294967281→∀ (fuel:Nat) (st:S),b.length<fuel→folL step ls st=some r →
   bindS (S:=(Unit)) (A:=S⊕O)
    (loopF (S:=((List Int)×(S⊕O))) (O:=(Unit)⊕(S⊕O)) (fun ((s17,s18):(List Int)×(S⊕O)) =>
     (bytes_Cut_sh s17 [13,10]).bind fun v1 =>
     bindS (S:=(S⊕O)×Bool) (A:=(((List Int)×(S⊕O))⊕((Unit)⊕(S⊕O))))
      (cond ((!v1.2.2))
       (some (.inl (s18,true)))
       ((rangeY step v1.1 s18).bind fun v2 =>
       some (.inl ((v2.1,(!v2.2))))))
      (fun ((s31,s32):(S⊕O)×Bool) =>
       cond (s32)
        (some (.inr (.inr (s31))))
        (some (.inl (v1.2.1,s31)))) some)
     fuel (b,.inl st))
    (fun (():Unit) =>
     none) some=some r:=by
  intro b ls rest H
  induction H with
  | nil h =>
   intro hb hl fuel st hf hr
   obtain ⟨f,rfl⟩:∃ f,fuel=f+1:=⟨fuel-1,by omega⟩
   rw [loop_exit (o := .inr (.inl st)) (bnd (cut_none hb hl h) rfl)]
   exact hr
  | cons h t ih =>
   rename_i b e ls r'
   intro hb hl fuel st hf hr
   obtain ⟨f,rfl⟩:∃ f,fuel=f+1:=⟨fuel-1,by omega⟩
   have h1:=(idx2_some h).1
   simp only [folL] at hr
   cases hst:step (b.take e) st with
   | none=>rw [hst] at hr; cases hr
   | some u =>
    rw [hst] at hr
    cases u with
    | inl s' =>
     rw [loop_next (s':=(b.drop (e+2),.inl s')) (bnd (cut_some hb hl h) (bndL (s:=((Sum.inl s':S⊕O),false)) (cnd_f rfl (bnd (x:=((Sum.inl s':S⊕O),true)) (by simp [rangeY,hst]) rfl)) rfl))]
     exact ih (byt_drop hb _) (by rw [List.length_drop]; omega) f s' (by rw [List.length_drop]; omega) hr
    | inr o =>
     rw [loop_exit (o := .inr (.inr o)) (bnd (cut_some hb hl h) (bndL (s:=((Sum.inr o:S⊕O),true)) (cnd_f rfl (bnd (x:=((Sum.inr o:S⊕O),false)) (by simp [rangeY,hst]) rfl)) rfl))]
     exact hr
 exact key b ls rest H hb hl BIG st (by unfold BIG; omega) hr
theorem lns_ex:∀ (n:Nat) (b:List Int),b.length≤n→∃ ls r,Lns b ls r
 | n,b,hn=>by
  cases h:idx2 b with
  | none=>exact ⟨_,_,.nil h⟩
  | some e =>
   have h1:=(idx2_some h).1
   cases n with
   | zero=>omega
   | succ n =>
    obtain ⟨ls,r,H⟩:=lns_ex n (b.drop (e+2)) (by rw [List.length_drop]; omega)
    exact ⟨_,_,.cons h H⟩
def jn:List (List Int)→List Int
 | []=>[]
 | l::ls=>l++13::10::jn ls
theorem lns_join {b:List Int} {ls:List (List Int)} {r:List Int} (H:Lns b ls r):b=jn ls++r:=by
 induction H with
 | nil h=>rfl
 | cons h t ih =>
  have h2:=(idx2_some h).2
  conv=>lhs; rw [h2]
  simp only [jn,List.append_assoc,List.cons_append]
  rw [← ih]
def cln (l:List Int):Prop:=∀ x∈l,x≠13∧x≠10
theorem lns_app {ls:List (List Int)} {t:List Int} {ms:List (List Int)} {r:List Int} (h:∀ l∈ls,cln l) (H:Lns t ms r):Lns (jn ls++t) (ls++ms) r:=by
 induction ls with
 | nil=>exact H
 | cons l ls ih =>
  have e:jn (l::ls)++t=l++13::10::(jn ls++t):=by simp [jn]
  have hi:=idx2_line (line:=l) (rest:=jn ls++t) (fun x hx=>(h l (by simp) x hx).1)
  have:=Lns.cons (b:=l++13::10::(jn ls++t)) hi (ls:=ls++ms) (r:=r) (by
   have e2:(l++13::10::(jn ls++t)).drop (l.length+2)=jn ls++t:=by
    rw [List.drop_append]; simp
   rw [e2]
   exact ih fun x hx=>h x (by simp [hx]))
  rw [e]
  have e3:(l++13::10::(jn ls++t)).take l.length=l:=by simp
  rw [e3] at this
  exact this
theorem lns_nil:Lns [] [] [] := .nil rfl
theorem lns_jn {ls:List (List Int)} (h:∀ l∈ls,cln l):Lns (jn ls) ls []:=by
 have:=lns_app h lns_nil
 simpa using this
theorem crlf_clean:∀ {l:List Int},cln l→crlfIx l = -1
 | [],_=>rfl
 | x::l,h=>by
  have hx:=h x (by simp)
  unfold crlfIx
  rw [if_neg (by rintro (e | e); exact hx.1 e; exact hx.2 e),if_pos (crlf_clean fun y hy=>h y (by simp [hy]))]
theorem crlf_dirty:∀ {l:List Int},¬ cln l→0≤crlfIx l
 | [],h=>absurd (fun x hx=>by simp at hx) h
 | x::l,h=>by
  unfold crlfIx
  by_cases hx:x=13∨x=10
  ·rw [if_pos hx]; omega
  ·rw [if_neg hx]
   have:=crlf_dirty (l:=l) (fun hc=>h fun y hy=>by
    rcases List.mem_cons.1 hy with rfl | hy
    ·exact ⟨fun e=>hx (.inl e),fun e=>hx (.inr e)⟩
    ·exact hc y hy)
   rw [if_neg (by omega)]; omega
theorem any_of {l:List Int} (hb:byt l) (hl:l.length<4294967281):bytes_ContainsAny l (⟨#[13,10]⟩:ByteArray)=some (decide (0≤crlfIx l)):=by
 unfold bytes_ContainsAny bytes_IndexAny
 rw [if_pos ⟨rfl,hl,List.all_eq_true.2 fun x hx=>decide_eq_true (hb x hx)⟩]
 rfl
def tot:List (List Int)→Nat
 | []=>0
 | l::ls=>l.length+2+tot ls
theorem jn_len:∀ ls,(jn ls).length=tot ls
 | []=>rfl
 | l::ls=>by simp [jn,tot,jn_len ls]; omega
open Classical in
theorem fol_check:∀ (ls:List (List Int)) (s:Nat),(∀ l∈ls,byt l)→s+tot ls<4294967281 →
  folL (S:=Int) (O:=Int) (fun (x:(List Int)) (s8:Int) =>
   (bytes_ContainsAny x (⟨#[13,10]⟩:ByteArray)).bind fun v2 =>
   cond (v2)
    (some (.inr s8))
    ((some (IntKind.i64.wrap ((x.length:Int)+2))).bind fun v4 =>
    (some (IntKind.i64.wrap (s8+v4))).bind fun v5 =>
    some (.inl v5))) ls (s:Int)=if ∀ l∈ls,cln l then some (.inl ((s+tot ls:Nat):Int)) else (folL (S:=Int) (O:=Int) (fun (x:(List Int)) (s8:Int) =>
   (bytes_ContainsAny x (⟨#[13,10]⟩:ByteArray)).bind fun v2 =>
   cond (v2)
    (some (.inr s8))
    ((some (IntKind.i64.wrap ((x.length:Int)+2))).bind fun v4 =>
    (some (IntKind.i64.wrap (s8+v4))).bind fun v5 =>
    some (.inl v5))) ls (s:Int)):=by
 intro ls
 induction ls with
 | nil=>intro s _ _; simp [folL,tot]
 | cons l ls ih =>
  intro s hb hs
  by_cases h:∀ m∈l::ls,cln m
  ·rw [if_pos h]
   simp only [tot] at hs
   have e:((bytes_ContainsAny l (⟨#[13,10]⟩:ByteArray)).bind fun v2 =>
   cond (v2)
    (some (.inr (s:Int)))
    ((some (IntKind.i64.wrap ((l.length:Int)+2))).bind fun v4 =>
    (some (IntKind.i64.wrap ((s:Int)+v4))).bind fun v5 =>
    some (.inl v5)):Option (Int⊕Int))=some (.inl ((s+(l.length+2):Nat):Int)):=by
    refine bnd (any_of (hb l (by simp)) (by omega)) ?_
    rw [crlf_clean (h l (by simp))]
    refine cnd_f rfl (bnd (wrap_j (by omega) (by omega)) (bnd (wrap_j (by omega) (by omega)) ?_))
    simp
   simp only [folL]
   rw [e]
   have:=ih (s+(l.length+2)) (fun m hm=>hb m (by simp [hm])) (by omega)
   rw [if_pos fun m hm=>h m (by simp [hm])] at this
   simp only [tot]
   rw [show s+(l.length+2+tot ls)=s+(l.length+2)+tot ls by omega]
   exact this
  ·rw [if_neg h]
theorem fol_dirty:∀ (ls:List (List Int)) (s:Nat),(∀ l∈ls,byt l)→s+tot ls<4294967281→(¬ ∀ l∈ls,cln l) →
  ∃ o,folL (S:=Int) (O:=Int) (fun (x:(List Int)) (s8:Int) =>
   (bytes_ContainsAny x (⟨#[13,10]⟩:ByteArray)).bind fun v2 =>
   cond (v2)
    (some (.inr s8))
    ((some (IntKind.i64.wrap ((x.length:Int)+2))).bind fun v4 =>
    (some (IntKind.i64.wrap (s8+v4))).bind fun v5 =>
    some (.inl v5))) ls (s:Int)=some (.inr o):=by
 intro ls
 induction ls with
 | nil=>intro s _ _ h; exact absurd (fun x hx=>by simp at hx) h
 | cons l ls ih =>
  intro s hb hs h
  simp only [tot] at hs
  by_cases hc:cln l
  ·have e:((bytes_ContainsAny l (⟨#[13,10]⟩:ByteArray)).bind fun v2 =>
   cond (v2)
    (some (.inr (s:Int)))
    ((some (IntKind.i64.wrap ((l.length:Int)+2))).bind fun v4 =>
    (some (IntKind.i64.wrap ((s:Int)+v4))).bind fun v5 =>
    some (.inl v5)):Option (Int⊕Int))=some (.inl ((s+(l.length+2):Nat):Int)):=by
    refine bnd (any_of (hb l (by simp)) (by omega)) ?_
    rw [crlf_clean hc]
    refine cnd_f rfl (bnd (wrap_j (by omega) (by omega)) (bnd (wrap_j (by omega) (by omega)) ?_))
    simp
   obtain ⟨o,ho⟩:=ih (s+(l.length+2)) (fun m hm=>hb m (by simp [hm])) (by omega) (fun hh=>h fun m hm=>by
    rcases List.mem_cons.1 hm with rfl | hm
    ·exact hc
    ·exact hh m hm)
   refine ⟨o,?_⟩
   simp only [folL]
   rw [e]
   exact ho
  ·refine ⟨(s:Int),?_⟩
   simp only [folL]
   rw [any_of (hb l (by simp)) (by omega),decide_eq_true (crlf_dirty hc)]
   rfl
theorem byt_line {b:List Int} {ls:List (List Int)} {r:List Int} (H:Lns b ls r) (hb:byt b):∀ l∈ls,byt l:=by
 induction H with
 | nil h=>intro l hl; simp at hl
 | cons h t ih =>
  intro l hl
  rcases List.mem_cons.1 hl with rfl | hl
  ·exact byt_take hb _
  ·exact ih (byt_drop hb _) l hl
theorem jn_byt {ls:List (List Int)} (h:∀ l∈ls,byt l):byt (jn ls):=by
 induction ls with
 | nil=>intro l hl; simp [jn] at hl
 | cons m ls ih =>
  intro x hx
  simp only [jn,List.mem_append,List.mem_cons] at hx
  rcases hx with hx | rfl | rfl | hx
  ·exact h m (by simp) x hx
  ·omega
  ·omega
  ·exact ih (fun l hl=>h l (by simp [hl])) x hx
theorem check_ok {ls:List (List Int)} (h:∀ l∈ls,cln l) (hb:∀ l∈ls,byt l) (hl:tot ls<4294967281):dots_Check (jn ls)=some 0:=by
 unfold dots_Check dots_lines
 refine bnd rfl ?_
 refine bndL (s:=((0+tot ls:Nat):Int)) (lines_range _ (lns_jn h) (jn_byt hb) (by rw [jn_len]; exact hl) _ _ (by
  have:=fol_check ls 0 hb (by omega)
  rw [if_pos h] at this
  exact this)) ?_
 refine cnd_f ?_ rfl
 rw [jn_len]; simp
theorem check_any {b:List Int} (hb:byt b) (hl:b.length<4294967281):(dots_Check b=some 5)∨∃ ls,(∀ l∈ls,cln l)∧(∀ l∈ls,byt l)∧b=jn ls:=by
 obtain ⟨ls,r,H⟩:=lns_ex b.length b (Nat.le_refl _)
 have hj:=lns_join H
 have hlen:b.length=tot ls+r.length:=by rw [hj,List.length_append,jn_len]
 by_cases h:∀ l∈ls,cln l
 ·cases r with
  | nil=>exact .inr ⟨ls,h,byt_line H hb,by simpa using hj⟩
  | cons y r =>
   left
   unfold dots_Check dots_lines
   refine bnd rfl ?_
   refine bndL (s:=((0+tot ls:Nat):Int)) (lines_range _ H hb hl _ _ (by
    have:=fol_check ls 0 (byt_line H hb) (by omega)
    rw [if_pos h] at this
    exact this)) ?_
   refine cnd_t ?_ rfl
   simp only [List.length_cons] at hlen
   rw [bne_iff_ne]; omega
 ·left
  obtain ⟨o,ho⟩:=fol_dirty ls 0 (byt_line H hb) (by omega) h
  unfold dots_Check dots_lines
  refine bnd rfl ?_
  exact bndR (a:=o) (lines_range _ H hb hl _ _ ho) rfl
/-! Numbers that rise: one more put among them. -/
def insS:List Int→Int→List Int
 | [],n=>[n]
 | a::l,n=>if a<n then a::insS l n else n::a::l
def Srt (l:List Int):Prop:=l.Pairwise (· < ·)
theorem ins_at {n:Int}:∀ {l:List Int} {p:Nat},p≤l.length→(∀ i (h:i<l.length),i<p→l[i]<n)→(∀ i (h:i<l.length),p≤i→n≤l[i])→l.take p++([n]++l.drop p)=insS l n
 | [],p,hp,_,_=>by
  simp only [List.length_nil] at hp
  obtain rfl:p=0:=by omega
  rfl
 | a::l,0,hp,_,h2=>by
  have:=h2 0 (by simp) (by omega)
  simp only [List.getElem_cons_zero] at this
  simp only [insS,if_neg (by omega:¬ a<n)]
  rfl
 | a::l,p+1,hp,h1,h2=>by
  have:=h1 0 (by simp) (by omega)
  simp only [List.getElem_cons_zero] at this
  simp only [insS,if_pos this]
  have hr:=ins_at (n:=n) (l:=l) (p:=p) (by simpa using hp) (fun i h hi=>h1 (i+1) (by simpa using h) (by omega)) (fun i h hi=>h2 (i+1) (by simpa using h) (by omega))
  rw [← hr]; rfl
theorem srt_lt {l:List Int} (h:Srt l) {i j:Nat} (hj:j<l.length) (hij:i<j):l[i]<l[j]:=List.pairwise_iff_getElem.1 h i j (by omega) hj hij
theorem index_eq (l:List Int) (v:Int) (hl:l.length<4294967296):∃ k:Int,slices_Index_int_int l v=some k∧(decide (0≤k))=decide (v∈l):=by
 unfold slices_Index_int_int
 rcases first_fail (fun i=>decide (l[i]? ≠ some v)) l.length with h | ⟨k,hk,h1,h2⟩
 ·refine ⟨-1,?_,?_⟩
  ·refine bndL (s:=()) (loop_from (fun i=>((i:Nat):Int)) l.length BIG rfl (by simp only [BIG]; omega) (fun i hi => ?_) ?_) rfl
   ·have hx:=of_decide_eq_true (h i hi)
    rw [List.getElem?_eq_getElem hi] at hx
    refine cnd_t (decide_eq_true (by omega)) (bnd (ixO_of hi) (bnd (by simp [getO,hi]:getO l i=some l[i]) (cnd_f ?_ (bnd (congrArg some (wrap_succ (by omega))) rfl))))
    exact beq_eq_false_iff_ne.2 (fun e=>hx (by rw [e]))
   ·exact cnd_f (decide_eq_false (by omega)) rfl
  ·rw [decide_eq_false (by omega)]
   refine (decide_eq_false fun hm => ?_).symm
   obtain ⟨i,hi,he⟩:=List.getElem_of_mem hm
   have hx:=of_decide_eq_true (h i hi)
   exact hx (by rw [List.getElem?_eq_getElem hi,he])
 ·refine ⟨k,?_,?_⟩
  ·refine bndR (a:=((k:Nat):Int)) (loop_from (fun i=>((i:Nat):Int)) k BIG rfl (by simp only [BIG]; omega) (fun i hi => ?_) ?_) rfl
   ·have hi':i<l.length:=by omega
    have hx:=of_decide_eq_true (h1 i hi)
    rw [List.getElem?_eq_getElem hi'] at hx
    refine cnd_t (decide_eq_true (by omega)) (bnd (ixO_of hi') (bnd (by simp [getO,hi']:getO l i=some l[i]) (cnd_f ?_ (bnd (congrArg some (wrap_succ (by omega))) rfl))))
    exact beq_eq_false_iff_ne.2 (fun e=>hx (by rw [e]))
   ·have hx:l[k]? = some v:=by simpa using h2
    rw [List.getElem?_eq_getElem hk] at hx
    exact cnd_t (decide_eq_true (by omega)) (bnd (ixO_of hk) (bnd (by simp [getO,hk]:getO l k=some l[k]) (cnd_t (by rw [Option.some.inj hx]; exact beq_self_eq_true v) rfl)))
  ·have hx:l[k]? = some v:=by simpa using h2
   rw [List.getElem?_eq_getElem hk] at hx
   rw [decide_eq_true (by omega),decide_eq_true (Option.some.inj hx ▸ List.getElem_mem hk)]
theorem contains_eq (l:List Int) (v:Int) (hl:l.length<4294967296):slices_Contains_int_int l v=some (decide (v∈l)):=by
 obtain ⟨k,h1,h2⟩:=index_eq l v hl
 unfold slices_Contains_int_int
 exact bnd h1 (by rw [h2])
theorem shr_half (a:Nat) (ha:a<9223372036854775808):shrO .u64 (a:Int) 1=some ((a / 2:Nat):Int):=by
 simp only [shrO]
 rw [if_pos (by omega)]
 have e:min (Int.toNat 1) IntKind.u64.bits=1:=rfl
 rw [e,Int.fdiv_eq_ediv_of_nonneg _ (by omega)]
 congr 1
theorem u64_wrap {n:Int} (h0:0≤n) (h1:n<18446744073709551616):IntKind.u64.wrap n=n:=by
 have e:(2:Int) ^ 64=18446744073709551616:=by decide
 simp only [IntKind.wrap,IntKind.bits,IntKind.signed]
 simp only [e,Bool.false_and,Bool.false_eq_true,if_false]
 omega
def bsS (x:List Int) (target:Int):(Int×Int)→Option ((Int×Int)⊕((Int)⊕(Int×Bool))):=(fun ((s27,s28):Int×Int) =>
   cond ((decide (s27<s28)))
    (bindS (S:=Int×Int) (A:=((Int×Int)⊕((Int)⊕(Int×Bool))))
     ((some (IntKind.i64.wrap (s27+s28))).bind fun v2 =>
     (some (IntKind.u64.wrap v2)).bind fun v3 =>
     (shrO .u64 v3 1).bind fun v4 =>
     (some (IntKind.i64.wrap v4)).bind fun v5 =>
     (ixO v5 x.length).bind fun v6 =>
     (getO x v6).bind fun v7 =>
     (cmp_Less_int v7 target).bind fun v8 =>
     cond (v8)
      ((some (IntKind.i64.wrap (v5+1))).bind fun v10 =>
      some (.inl (s28,v10)))
      (some (.inl (v5,s27))))
     (fun ((s46,s47):Int×Int) =>
      some (.inl (s47,s46))) some)
    (some (.inr (.inl s27))))
theorem less_eq (x y:Int):cmp_Less_int x y=some (decide (x<y)):=by
 unfold cmp_Less_int cmp_isNaN_int
 simp [bindS]
theorem bs_loop (x:List Int) (t:Int) (hs:Srt x) (hl:x.length<4294967296):∀ (fuel d i j:Nat),j-i=d→d<fuel→i≤j→j≤x.length→(∀ k (h:k<x.length),k<i→x[k]<t)→(∀ k (h:k<x.length),j≤k→t≤x[k]) →
  ∃ p:Nat,p≤x.length∧(∀ k (h:k<x.length),k<p→x[k]<t)∧(∀ k (h:k<x.length),p≤k→t≤x[k])∧loopF (bsS x t) fuel ((i:Int),(j:Int))=some (.inl (p:Int))
 | 0,d,i,j,_,hf,_,_,_,_=>absurd hf (Nat.not_lt_zero d)
 | fuel+1,d,i,j,hd,hf,hij,hj,h1,h2=>by
  by_cases h:i<j
  ·have hm:(i+j) / 2<x.length:=by omega
   have hw:IntKind.i64.wrap ((i:Int)+(j:Int))=((i+j:Nat):Int):=by rw [wrap_i64 (by omega) (by omega)]; simp
   have e5:IntKind.i64.wrap (((i+j) / 2:Nat):Int)=(((i+j) / 2:Nat):Int):=wrap_nat _ (by omega)
   by_cases hc:x[(i+j) / 2]<t
   ·obtain ⟨p,hp,a,b,c⟩:=bs_loop x t hs hl fuel (j-((i+j) / 2+1)) ((i+j) / 2+1) j rfl (by omega) (by omega) hj (fun k hk hki=>by
     by_cases hkm:k=(i+j) / 2
     ·subst hkm; exact hc
     ·have:=srt_lt hs (i:=k) hm (by omega); omega) h2
    refine ⟨p,hp,a,b,?_⟩
    rw [← c]
    refine loop_next ?_
    refine cnd_t (decide_eq_true (by omega)) (bndL (s:=((j:Int),(((i+j) / 2+1:Nat):Int))) ?_ rfl)
    exact bnd (congrArg some hw) (bnd (congrArg some (u64_wrap (by omega) (by omega))) (bnd (shr_half _ (by omega)) (bnd (congrArg some e5) (bnd (ixO_of hm) (bnd (by simp [getO,hm]:getO x _=some x[(i+j) / 2]) (bnd (less_eq _ _) (cnd_t (decide_eq_true hc) (bnd (congrArg some (wrap_succ (by omega))) rfl))))))))
   ·obtain ⟨p,hp,a,b,c⟩:=bs_loop x t hs hl fuel ((i+j) / 2-i) i ((i+j) / 2) rfl (by omega) (by omega) (by omega) h1 (fun k hk hki=>by
     by_cases hkm:k=(i+j) / 2
     ·subst hkm; omega
     ·have:=srt_lt hs (i:=(i+j) / 2) hk (by omega); omega)
    refine ⟨p,hp,a,b,?_⟩
    rw [← c]
    refine loop_next ?_
    refine cnd_t (decide_eq_true (by omega)) (bndL (s:=((((i+j) / 2:Nat):Int),(i:Int))) ?_ rfl)
    exact bnd (congrArg some hw) (bnd (congrArg some (u64_wrap (by omega) (by omega))) (bnd (shr_half _ (by omega)) (bnd (congrArg some e5) (bnd (ixO_of hm) (bnd (by simp [getO,hm]:getO x _=some x[(i+j) / 2]) (bnd (less_eq _ _) (cnd_f (decide_eq_false hc) rfl)))))))
  ·obtain rfl:i=j:=by omega
   refine ⟨i,hj,h1,h2,loop_exit (cnd_f (decide_eq_false (by omega)) rfl)⟩
theorem bsearch_eq (x:List Int) (t:Int) (hs:Srt x) (hl:x.length<4294967295):∃ (p:Nat) (b:Bool),slices_BinarySearch_int_int x t=some ((p:Int),b)∧p≤x.length∧(∀ k (h:k<x.length),k<p→x[k]<t)∧(∀ k (h:k<x.length),p≤k→t≤x[k]):=by
 obtain ⟨p,hp,h1,h2,h3⟩:=bs_loop x t hs (by omega) BIG x.length 0 x.length rfl (by simp only [BIG]; omega) (by omega) (by omega) (fun k _ h=>absurd h (Nat.not_lt_zero k)) (fun k h h'=>absurd h' (by omega))
 unfold slices_BinarySearch_int_int
 by_cases hlt:p<x.length
 ·by_cases he:x[p]=t
  ·refine ⟨p,true,bndL (s:=(p:Int)) h3 ?_,hp,h1,h2⟩
   refine bndL (s:=true) ?_ rfl
   exact cnd_t (decide_eq_true (by omega)) (bnd (ixO_of hlt) (bnd (by simp [getO,hlt]:getO x p=some x[p]) (cnd_t (by rw [he]; exact beq_self_eq_true t) rfl)))
  ·refine ⟨p,false,bndL (s:=(p:Int)) h3 ?_,hp,h1,h2⟩
   refine bndL (s:=false) ?_ rfl
   exact cnd_t (decide_eq_true (by omega)) (bnd (ixO_of hlt) (bnd (by simp [getO,hlt]:getO x p=some x[p]) (cnd_f (beq_eq_false_iff_ne.2 he) (bnd (ixO_of hlt) (bnd (by simp [getO,hlt]:getO x p=some x[p]) (bnd (x:=false) (by simp [slices_isNaN_int]) rfl))))))
 ·refine ⟨p,false,bndL (s:=(p:Int)) h3 ?_,hp,h1,h2⟩
  exact bndL (s:=false) (cnd_f (decide_eq_false (by omega)) rfl) rfl
theorem done_ins (x:List Int) (t:Int) (hs:Srt x) (hl:x.length<1000000000) {R:Type} (f:List Int→Option R) :
  ((slices_BinarySearch_int_int x t).bind fun v=>(slices_Insert_int_int x v.1 [t]).bind f)=f (insS x t):=by
 obtain ⟨p,b,h,hp,h1,h2⟩:=bsearch_eq x t hs (by omega)
 refine bnd h ?_
 have hi:slices_Insert_int_int x ((p:Int),b).1 [t]=some (insS x t):=by
  simp only [slices_Insert_int_int]
  rw [if_pos ⟨by omega,by omega,by simp,by simp; omega⟩,Int.toNat_natCast,ins_at hp h1 h2]
 exact bnd hi rfl
theorem app_nil {A:Type} {k:Nat} {l:List A} (h:l.length * k≤140737488355328) (h1:l.length≤140737488355328):appO k [] l=some l:=by
 rw [app_of (by simpa using h) (by simpa using h1)]; rfl
theorem clone_mail {m:T_Mail} (h:LM m):clone_Mail m=some m:=by
 obtain ⟨h1,h2⟩:=h
 simp only [mW] at h2
 simp only [clone_Mail,clone_List_api_Path,clone_List_byte]
 rw [app_nil (by omega) (by omega),app_nil (by omega) (by omega)]; rfl
theorem take_succ {A:Type} (l:List A) (k:Nat) (hk:k<l.length):l.take (k+1)=l.take k++[l[k]]:=by
 rw [List.take_add_one,List.getElem?_eq_getElem hk]; rfl
def evS (m:T_Mail):Int→Option (Int⊕(Unit⊕Bool)):=(fun (s24:Int) =>
      cond ((decide (s24<(m.To.length:Int))))
       ((ixO s24 m.To.length).bind fun v8 =>
       (getO m.To v8).bind fun v9 =>
       bindS (S:=Bool) (A:=((Int)⊕((Unit)⊕Bool)))
        ((path_Check v9).bind fun v10 =>
        cond ((v10 != 0))
         (some (.inl true))
         (some (.inl v9.Null)))
        (fun (s38:Bool) =>
         cond (s38)
          (some (.inr (.inr (false))))
          ((some (IntKind.i64.wrap (s24+1))).bind fun v16 =>
          some (.inl v16))) some)
       (some (.inr (.inl ()))))
def fnS (s:List T_Item) (n:Int):Int→Option (Int⊕(Unit⊕Int)):=(fun (s10:Int) =>
   cond ((decide (s10<(s.length:Int))))
    ((ixO s10 s.length).bind fun v2 =>
    (getO s v2).bind fun v3 =>
    (spool_find_1_cap ((T_Item.mk v3.Id ((T_Mail.mk (T_Path.mk v3.Mail.From.Null v3.Mail.From.Local v3.Mail.From.Domain) v3.Mail.To v3.Mail.Body v3.Mail.Quiet v3.Mail.Helo v3.Mail.At)) v3.State v3.Pack)) n).bind fun v4 =>
    cond (v4)
     (some (.inr (.inr (s10))))
     ((some (IntKind.i64.wrap (s10+1))).bind fun v6 =>
     some (.inl v6)))
    (some (.inr (.inl ()))))
def idS (s:T_Spool) (ids:List Int):Int→Option (Int⊕(Unit⊕Bool)):=(fun (s27:Int) =>
      cond ((decide (s27<(ids.length:Int))))
       ((ixO s27 ids.length).bind fun v7 =>
       (getO ids v7).bind fun v8 =>
       bindS (S:=Bool) (A:=((Int)⊕((Unit)⊕Bool)))
        (cond ((decide (0<s27)))
         ((some (IntKind.i64.wrap (s27-1))).bind fun v9 =>
         (ixO v9 ids.length).bind fun v10 =>
         (getO ids v10).bind fun v11 =>
         cond ((decide (v8≤v11)))
          (some (.inl true))
          ((spool_waits s v8).bind fun v12 =>
          some (.inl (!v12))))
         ((spool_waits s v8).bind fun v13 =>
         some (.inl (!v13))))
        (fun (s41:Bool) =>
         cond (s41)
          (some (.inr (.inr (false))))
          ((some (IntKind.i64.wrap (s27+1))).bind fun v19 =>
          some (.inl v19))) some)
       (some (.inr (.inl ()))))
/-! What is told always,whatever it is. -/
def PL {A:Type} (m:Option (Bool⊕A)):Prop:=∃ b,m=some (.inl b)
theorem inl_of {A:Type} {a b:Bool} (h:a=b):(some (.inl a):Option (Bool⊕A))=some (.inl b):=by rw [h]
theorem pl {A:Type} (b:Bool):PL (A:=A) (some (.inl b)):=⟨b,rfl⟩
theorem tc {A:Type} {c:Bool} {x y:Option (Bool⊕A)} (hx:PL x) (hy:PL y):PL (cond c x y):=by cases c; exact hy; exact hx
theorem tb {A X:Type} {o:Option X} {f:X→Option (Bool⊕A)} {x:X} (h:o=some x) (hf:PL (f x)):PL (o.bind f):=by subst h; exact hf
theorem fin {m:Option (Bool⊕Bool)} {f:Bool→Option Bool} {g:Bool→Option Bool} (h:PL m) (hf:∀ b,∃ c,f b=some c):∃ b,bindS m f g=some b:=by
 obtain ⟨b,rfl⟩:=h
 exact hf b
theorem rest_tot (r:T_Rec):∃ q,spool_rest_sh r=some q:=by
 unfold spool_rest_sh
 cases (r.Kind==1) <;> cases (r.Kind==2) <;> cases (r.Kind==3) <;> cases (r.Kind==6) <;> cases (r.Kind==4) <;> cases (r.Kind==5) <;> exact ⟨_,rfl⟩
theorem empty_tot (r:T_Rec):∃ b,spool_empty r=some b:=by
 unfold spool_empty
 refine fin ?_ fun b=>fin ?_ fun c=>⟨_,rfl⟩
 ·iterate 6 (first | exact pl _ | refine tc ?_ (pl _))
 ·iterate 8 (first | exact pl _ | refine tc ?_ (pl _))
def erO (r:T_Rec):Option Bool:=(spool_rest_sh r).bind spool_empty
def er (r:T_Rec):Bool:=(erO r).getD false
theorem er_eq (r:T_Rec):erO r=some (er r):=by
 obtain ⟨q,h⟩:=rest_tot r
 obtain ⟨b,h'⟩:=empty_tot q
 have:erO r=some b:=by unfold erO; exact bnd h h'
 simp only [er,this,Option.getD_some]
theorem lm_small {m:T_Mail} (h:LM m):Small m.From∧(∀ p∈m.To,Small p)∧m.Body.length≤20000∧m.To.length≤40:=by
 obtain ⟨h1,h2⟩:=h
 have h2':=h2
 simp only [mW] at h2
 refine ⟨⟨by omega,by omega⟩,fun p hp => ?_,by omega,h1⟩
 have:=pW_le_psum hp
 simp only [pW] at this
 exact ⟨by omega,by omega⟩
theorem loop_each {R:Type} {f:Int→Option (Int⊕(Unit⊕R))} (n:Nat) (h:∀ i:Nat,i<n→f (i:Int)=some (.inl ((i+1:Nat):Int))∨∃ r,f (i:Int)=some (.inr (.inr r))) (hend:f (n:Int)=some (.inr (.inl ()))) :
  ∀ (d i fuel:Nat),i+d=n→d<fuel→∃ o,loopF f fuel (i:Int)=some o
 | d,i,0,_,hf=>absurd hf (Nat.not_lt_zero d)
 | 0,i,fuel+1,hd,hf=>by
  obtain rfl:i=n:=by omega
  exact ⟨_,loop_exit hend⟩
 | d+1,i,fuel+1,hd,hf=>by
  rcases h i (by omega) with h1 | ⟨r,h1⟩
  ·obtain ⟨o,ho⟩:=loop_each n h hend d (i+1) fuel (by omega) (by omega)
   exact ⟨o,by rw [loop_next h1]; exact ho⟩
  ·exact ⟨_,loop_exit h1⟩
theorem env_tot {m:T_Mail} (h:LM m):∃ b,envelope_Valid m=some b:=by
 obtain ⟨h1,h2,h3,h4⟩:=lm_small h
 unfold envelope_Valid
 refine fin (tb (check_eq _ h1) (tc (pl _) (tc (pl _) (pl _)))) fun b => ?_
 cases b
 ·refine (fun ⟨b,h⟩=>⟨b,cnd_f rfl h⟩:(∃ b,_=some b)→_) ?_
  have hx:=loop_each (R:=Bool) (f:=evS m) m.To.length (fun i hi => ?_) (cnd_f (decide_eq_false (by omega)) rfl) m.To.length 0 BIG (by omega) (by simp only [BIG]; omega)
  ·obtain ⟨o,ho⟩:=hx
   cases o with
   | inl u=>exact ⟨true,bndL ho rfl⟩
   | inr b=>exact ⟨b,bndR ho rfl⟩
  ·obtain ⟨b,hb⟩:PL (A:=Int⊕(Unit⊕Bool)) ((path_Check m.To[i]).bind fun v10=>cond ((v10 != 0)) (some (.inl true)) (some (.inl m.To[i].Null))):=tb (check_eq _ (h2 _ (List.getElem_mem hi))) (tc (pl _) (pl _))
   have e:evS m (i:Int)=some (if b then .inr (.inr false) else .inl ((i+1:Nat):Int)):=by
    refine cnd_t (decide_eq_true (by omega)) (bnd (ixO_of hi) (bnd (by simp [getO,hi]:getO m.To i=some m.To[i]) (bndL hb ?_)))
    cases b
    ·exact cnd_f rfl (bnd (congrArg some (wrap_succ (n:=i) (by omega))) rfl)
    ·rfl
   rw [e]
   cases b
   ·exact .inl rfl
   ·exact .inr ⟨_,rfl⟩
 ·exact ⟨false,rfl⟩
theorem dchk_tot {b:List Int} (hb:byt b) (hl:b.length<4294967281):∃ n,dots_Check b=some n:=by
 rcases check_any hb hl with h | ⟨ls,h1,h2,rfl⟩
 ·exact ⟨_,h⟩
 ·exact ⟨_,check_ok h1 h2 (by rw [← jn_len]; exact hl)⟩
theorem mail_tot {m:T_Mail} (h:LM m) (hb:byt m.Body):∃ b,spool_validMail m=some b:=by
 obtain ⟨b,h1⟩:=env_tot h
 obtain ⟨n,h2⟩:=dchk_tot hb (by have:=(lm_small h).2.2.1; omega)
 unfold spool_validMail
 exact fin (tb h1 (tc (tb h2 (tc (tc (pl _) (pl _)) (pl _))) (pl _))) fun c=>⟨_,rfl⟩
def mv (m:T_Mail):Bool:=(spool_validMail m).getD false
theorem mv_eq {m:T_Mail} (h:LM m) (hb:byt m.Body):spool_validMail m=some (mv m):=by
 obtain ⟨b,h⟩:=mail_tot h hb
 simp only [mv,h,Option.getD_some]
/-! A spool's items by their Ids. -/
def Ids (s:T_Spool):Prop:=∀ i (h:i<s.Items.length),s.Items[i].Id=(i:Int)+1
theorem find_eq (s:T_Spool) (hid:Ids s) (hl:s.Items.length<4294967296) (n:Int):spool_find s n=some (if 1≤n∧n≤(s.Items.length:Int) then n-1 else-1):=by
 unfold spool_find slices_IndexFunc_api_Item_api_Item_of_spool_find_1
 have go:∀ i,i<s.Items.length→(i:Int)+1≠n→fnS s.Items n (i:Int)=some (.inl ((i+1:Nat):Int)):=by
  intro i hi hne
  refine cnd_t (decide_eq_true (by omega)) (bnd (ixO_of hi) (bnd (by simp [getO,hi]:getO s.Items i=some s.Items[i]) (bnd (x:=false) ?_ (cnd_f rfl (bnd (congrArg some (wrap_succ (by omega))) rfl)))))
  show some (s.Items[i].Id==n)=some false
  rw [hid i hi,beq_eq_false_iff_ne.2 hne]
 by_cases hn:1≤n∧n≤(s.Items.length:Int)
 ·rw [if_pos hn]
  obtain ⟨k,rfl⟩:∃ k:Nat,n=(k:Int)+1:=⟨(n-1).toNat,by omega⟩
  have hk:k<s.Items.length:=by omega
  refine bnd (bndR (a:=(k:Int)) (loop_from (fun i=>((i:Nat):Int)) k BIG rfl (by simp only [BIG]; omega) (fun i hi=>go i (by omega) (by omega)) ?_) rfl) (by rw [Int.add_sub_cancel])
  refine cnd_t (decide_eq_true (by omega)) (bnd (ixO_of hk) (bnd (by simp [getO,hk]:getO s.Items k=some s.Items[k]) (bnd (x:=true) ?_ rfl)))
  show some (s.Items[k].Id==(k:Int)+1)=some true
  rw [hid k hk,beq_self_eq_true]
 ·rw [if_neg hn]
  refine bnd (bndL (s:=()) (loop_from (fun i=>((i:Nat):Int)) s.Items.length BIG rfl (by simp only [BIG]; omega) (fun i hi=>go i hi (by omega)) ?_) rfl) rfl
  exact cnd_f (decide_eq_false (by omega)) rfl
def wt (s:T_Spool) (n:Int):Bool:=decide (1≤n∧n≤(s.Items.length:Int))&&((s.Items[(n-1).toNat]?.map (·.State))==some 1)
theorem waits_eq (s:T_Spool) (hid:Ids s) (hl:s.Items.length<4294967296) (n:Int):spool_waits s n=some (wt s n):=by
 unfold spool_waits wt
 refine bnd (find_eq s hid hl n) ?_
 by_cases hn:1≤n∧n≤(s.Items.length:Int)
 ·rw [if_pos hn,decide_eq_true hn,Bool.true_and]
  obtain ⟨k,rfl⟩:∃ k:Nat,n=(k:Int)+1:=⟨(n-1).toNat,by omega⟩
  have hk:k<s.Items.length:=by omega
  have e:(((k:Int)+1)-1)=(k:Int):=by omega
  rw [e,Int.toNat_natCast,List.getElem?_eq_getElem hk]
  exact bndL (s:=(s.Items[k].State==1)) (cnd_t (decide_eq_true (by omega)) (bnd (ixO_of hk) (bnd (by simp [getO,hk]:getO s.Items k=some s.Items[k]) rfl))) (by cases h:(s.Items[k].State==1) <;> simp_all)
 ·rw [if_neg hn,decide_eq_false hn,Bool.false_and]
  exact bndL (s:=false) rfl rfl
def idB (s:T_Spool) (ids:List Int) (i:Nat):Bool:=(i==0||decide (ids.getD (i-1) 0<ids.getD i 0))&&wt s (ids.getD i 0)
def idsB (s:T_Spool) (ids:List Int):Bool:=decide (1≤ids.length∧ids.length≤4)&&decide (∀ i,i<ids.length→idB s ids i=true)
theorem ids_eq (s:T_Spool) (hid:Ids s) (hl:s.Items.length<4294967296) (ids:List Int):spool_validIds s ids=some (idsB s ids):=by
 unfold spool_validIds idsB
 by_cases h1:ids.length<1
 ·rw [decide_eq_false (by omega:¬ (1≤ids.length∧ids.length≤4)),Bool.false_and]
  exact bndL (s:=true) (cnd_t (decide_eq_true (by omega)) rfl) rfl
 ·by_cases h4:4<ids.length
  ·rw [decide_eq_false (by omega:¬ (1≤ids.length∧ids.length≤4)),Bool.false_and]
   exact bndL (s:=true) (cnd_f (decide_eq_false (by omega)) (inl_of (decide_eq_true (by omega)))) rfl
  ·rw [decide_eq_true (by omega:1≤ids.length∧ids.length≤4),Bool.true_and]
   refine bndL (s:=false) (cnd_f (decide_eq_false (by omega)) (inl_of (decide_eq_false (by omega)))) (cnd_f rfl ?_)
   have rnd:∀ i,i<ids.length→idS s ids (i:Int)=some (if idB s ids i then .inl ((i+1:Nat):Int) else .inr (.inr false)):=by
    intro i hi
    have hg:getO ids i=some ids[i]:=by simp [getO,hi]
    have hd:ids.getD i 0=ids[i]:=by simp [List.getD,hi]
    refine cnd_t (decide_eq_true (by omega)) (bnd (ixO_of hi) (bnd hg (bndL (s := !idB s ids i) ?_ ?_)))
    ·cases i with
     | zero=>exact cnd_f rfl (bnd (waits_eq s hid hl _) (by simp only [idB,hd,beq_self_eq_true,Bool.true_or,Bool.true_and]))
     | succ k =>
      have hk:k<ids.length:=by omega
      have hw:IntKind.i64.wrap (((k+1:Nat):Int)-1)=(k:Int):=by rw [wrap_i64 (by omega) (by omega)]; omega
      have hd':ids.getD (k+1-1) 0=ids[k]:=by simp [List.getD,hk]
      refine cnd_t (decide_eq_true (by omega)) (bnd (congrArg some hw) (bnd (ixO_of hk) (bnd (by simp [getO,hk]:getO ids k=some ids[k]) ?_)))
      have e0:(k+1==0)=false:=rfl
      simp only [idB,hd,hd',e0,Bool.false_or]
      by_cases hle:ids[k+1]≤ids[k]
      ·rw [decide_eq_false (by omega:¬ ids[k]<ids[k+1]),Bool.false_and]
       exact cnd_t (decide_eq_true hle) rfl
      ·rw [decide_eq_true (by omega:ids[k]<ids[k+1]),Bool.true_and]
       exact cnd_f (decide_eq_false hle) (bnd (waits_eq s hid hl _) rfl)
    ·cases idB s ids i
     ·rfl
     ·exact cnd_f rfl (bnd (congrArg some (wrap_succ (n:=i) (by omega))) rfl)
   have hrun:=loop_all (R:=Bool) (idB s ids) ids.length false (fuel:=BIG) (by simp only [BIG]; omega) (fun i hi hp=>by have:=rnd i hi; rw [hp] at this; exact this) (fun i hi hp=>by have:=rnd i hi; rw [hp] at this; exact this) (cnd_f (decide_eq_false (by omega:¬ ((ids.length:Nat):Int)<(ids.length:Int))) rfl)
   by_cases ha:∀ i,i<ids.length→idB s ids i=true
   ·rw [if_pos ha] at hrun
    rw [decide_eq_true ha]
    exact bndL hrun rfl
   ·rw [if_neg ha] at hrun
    rw [decide_eq_false ha]
    exact bndR hrun rfl
def opn (s:T_Spool) (n:Int):Bool:=decide (1≤n∧n≤65535) && !decide (n∈s.Done)
def ckB (s:T_Spool) (r:T_Rec):Bool:=decide (1≤r.Data.length∧r.Data.length≤48)&&(decide (r.Offset=0)||decide (s.Of=r.Number∧r.Offset=(s.Part.length:Int)∧s.Part.length+r.Data.length≤5000))
def okS (s:T_Spool) (r:T_Rec):Bool:=er r&&(
 if r.Kind=1 then decide (s.Items.length<60∧r.Id=(s.Items.length:Int)+1∧(r.Origin=0∨r.Origin=1))&&mv r.Mail
 else if r.Kind=2 then decide (r.Number=s.Packs+1)&&idsB s r.Ids
 else if r.Kind=3 then decide (1≤r.Number∧r.Number≤s.Packs∧r.Number ∉ s.Sent)
 else if r.Kind=4 then wt s r.Id
 else if r.Kind=5 then opn s r.Number&&ckB s r
 else if r.Kind=6 then opn s r.Number
 else false)
def f2 (ids:List Int) (n:Int) (x:T_Item):T_Item:=if x.Id∈ids then ⟨x.Id,x.Mail,2,n⟩ else x
def f3 (n:Int) (x:T_Item):T_Item:=if x.Pack=n then ⟨x.Id,x.Mail,3,x.Pack⟩ else x
def f4 (n:Int) (x:T_Item):T_Item:=if x.Id=n then ⟨x.Id,x.Mail,4,x.Pack⟩ else x
def eff (s:T_Spool) (r:T_Rec):T_Spool :=
 if r.Kind=1 then ⟨s.Items++[⟨r.Id,r.Mail,if r.Origin=0 then 3 else 1,0⟩],s.Packs,s.Sent,s.Part,s.Of,s.Done⟩
 else if r.Kind=2 then ⟨s.Items.map (f2 r.Ids r.Number),r.Number,s.Sent,s.Part,s.Of,s.Done⟩
 else if r.Kind=3 then ⟨s.Items.map (f3 r.Number),s.Packs,s.Sent++[r.Number],s.Part,s.Of,s.Done⟩
 else if r.Kind=4 then ⟨s.Items.map (f4 r.Id),s.Packs,s.Sent,s.Part,s.Of,s.Done⟩
 else if r.Kind=5 then ⟨s.Items,s.Packs,s.Sent,if r.Offset=0 then r.Data else s.Part++r.Data,if r.Offset=0 then r.Number else s.Of,s.Done⟩
 else ⟨s.Items,s.Packs,s.Sent,if s.Of=r.Number then [] else s.Part,if s.Of=r.Number then-1 else s.Of,insS s.Done r.Number⟩
def Rok (r:T_Rec):Prop:=LR r∧byt r.Mail.Body
structure Inv (n:Nat) (s:T_Spool):Prop where
 hn:n<1000000
 len:s.Items.length≤n
 ids:Ids s
 lm:∀ x∈s.Items,LM x.Mail
 packs:0≤s.Packs∧s.Packs≤(n:Int)
 sent:s.Sent.length≤n
 part:s.Part.length≤5000
 done:s.Done.length≤n
 srt:Srt s.Done
theorem open_eq {n:Nat} {s:T_Spool} (hs:Inv n s) (k:Int):spool_open s k=some (opn s k):=by
 have:=hs.hn; have:=hs.done
 unfold spool_open opn
 by_cases h1:1≤k
 ·by_cases h2:k≤65535
  ·rw [(decide_eq_true ⟨h1,h2⟩:decide (1≤k∧k≤65535)=true),Bool.true_and]
   exact bndL (cnd_t (decide_eq_true h1) (cnd_t (decide_eq_true h2) (bnd (contains_eq _ _ (by omega)) rfl))) rfl
  ·rw [(decide_eq_false (fun h=>h2 h.2):decide (1≤k∧k≤65535)=false),Bool.false_and]
   exact bndL (cnd_t (decide_eq_true h1) (cnd_f (decide_eq_false h2) rfl)) rfl
 ·rw [(decide_eq_false (fun h=>h1 h.1):decide (1≤k∧k≤65535)=false),Bool.false_and]
  exact bndL (cnd_f (decide_eq_false h1) rfl) rfl
theorem chunk_eq {n:Nat} {s:T_Spool} {r:T_Rec} (hs:Inv n s) (hr:Rok r):spool_validChunk s r=some (ckB s r):=by
 have h5:=hs.part; have hd:=hr.1.1
 unfold spool_validChunk ckB
 by_cases h1:r.Data.length<1
 ·rw [decide_eq_false (by omega:¬ (1≤r.Data.length∧r.Data.length≤48)),Bool.false_and]
  exact bndL (s:=true) (cnd_t (decide_eq_true (by omega)) rfl) rfl
 by_cases h2:48<r.Data.length
 ·rw [decide_eq_false (by omega:¬ (1≤r.Data.length∧r.Data.length≤48)),Bool.false_and]
  exact bndL (s:=true) (cnd_f (decide_eq_false (by omega)) (inl_of (decide_eq_true (by omega)))) rfl
 rw [decide_eq_true (by omega:1≤r.Data.length∧r.Data.length≤48),Bool.true_and]
 refine bndL (s:=false) (cnd_f (decide_eq_false (by omega)) (inl_of (decide_eq_false (by omega)))) (cnd_f rfl ?_)
 by_cases ho:r.Offset=0
 ·rw [(decide_eq_true ho:decide (r.Offset=0)=true),Bool.true_or]
  exact cnd_t (beq_iff_eq.2 ho) rfl
 rw [(decide_eq_false ho:decide (r.Offset=0)=false),Bool.false_or]
 refine cnd_f (beq_eq_false_iff_ne.2 ho) (bndL (s:=decide (s.Of=r.Number∧r.Offset=(s.Part.length:Int)∧s.Part.length+r.Data.length≤5000)) ?_ rfl)
 by_cases a:s.Of=r.Number
 ·by_cases b:r.Offset=(s.Part.length:Int)
  ·have hw:=wadd (a:=s.Part.length) (b:=r.Data.length) (by omega)
   refine cnd_t (beq_iff_eq.2 a) (cnd_t (beq_iff_eq.2 b) (bnd hw (inl_of ?_)))
   by_cases c:s.Part.length+r.Data.length≤5000
   ·rw [(decide_eq_true ⟨a,b,c⟩:decide (s.Of=r.Number∧r.Offset=(s.Part.length:Int)∧s.Part.length+r.Data.length≤5000)=true)]; exact decide_eq_true (by omega)
   ·rw [(decide_eq_false (fun h=>c h.2.2):decide (s.Of=r.Number∧r.Offset=(s.Part.length:Int)∧s.Part.length+r.Data.length≤5000)=false)]; exact decide_eq_false (by omega)
  ·rw [(decide_eq_false (fun h=>b h.2.1):decide (s.Of=r.Number∧r.Offset=(s.Part.length:Int)∧s.Part.length+r.Data.length≤5000)=false)]
   exact cnd_t (beq_iff_eq.2 a) (cnd_f (beq_eq_false_iff_ne.2 b) rfl)
 ·rw [(decide_eq_false (fun h=>a h.1):decide (s.Of=r.Number∧r.Offset=(s.Part.length:Int)∧s.Part.length+r.Data.length≤5000)=false)]
  exact cnd_f (beq_eq_false_iff_ne.2 a) rfl
theorem valid_eq {n:Nat} {s:T_Spool} {r:T_Rec} (hs:Inv n s) (hr:Rok r):spool_valid s r=some (okS s r):=by
 have hl:=hs.len; have hn:=hs.hn; have hp:=hs.packs; have hse:=hs.sent
 obtain ⟨q,hq⟩:=rest_tot r
 have he:spool_empty q=some (er r):=by rw [← er_eq r]; unfold erO; rw [hq]; rfl
 unfold spool_valid okS
 refine bnd hq (bnd he ?_)
 cases er r
 ·exact cnd_t rfl rfl
 rw [Bool.true_and]
 refine cnd_f rfl ?_
 by_cases k1:r.Kind=1
 ·rw [if_pos k1]
  refine cnd_t (beq_iff_eq.2 k1) ?_
  by_cases a:s.Items.length<60
  ·by_cases b:r.Id=(s.Items.length:Int)+1
   ·have hw:IntKind.i64.wrap ((s.Items.length:Int)+1)=(s.Items.length:Int)+1:=wrap_i64 (by omega) (by omega)
    by_cases c:r.Origin=0
    ·rw [(decide_eq_true ⟨a,b,.inl c⟩:decide (s.Items.length<60∧r.Id=(s.Items.length:Int)+1∧(r.Origin=0∨r.Origin=1))=true),Bool.true_and]
     exact bndL (cnd_t (decide_eq_true (by omega)) (bnd (congrArg some hw) (cnd_t (beq_iff_eq.2 b) (cnd_t (beq_iff_eq.2 c) (bnd (mv_eq hr.1.2.2 hr.2) rfl))))) rfl
    ·by_cases d:r.Origin=1
     ·rw [(decide_eq_true ⟨a,b,.inr d⟩:decide (s.Items.length<60∧r.Id=(s.Items.length:Int)+1∧(r.Origin=0∨r.Origin=1))=true),Bool.true_and]
      exact bndL (cnd_t (decide_eq_true (by omega)) (bnd (congrArg some hw) (cnd_t (beq_iff_eq.2 b) (cnd_f (beq_eq_false_iff_ne.2 c) (cnd_t (beq_iff_eq.2 d) (bnd (mv_eq hr.1.2.2 hr.2) rfl)))))) rfl
     ·rw [(decide_eq_false (fun h=>h.2.2.elim c d):decide (s.Items.length<60∧r.Id=(s.Items.length:Int)+1∧(r.Origin=0∨r.Origin=1))=false),Bool.false_and]
      exact bndL (cnd_t (decide_eq_true (by omega)) (bnd (congrArg some hw) (cnd_t (beq_iff_eq.2 b) (cnd_f (beq_eq_false_iff_ne.2 c) (cnd_f (beq_eq_false_iff_ne.2 d) rfl))))) rfl
   ·have hw:IntKind.i64.wrap ((s.Items.length:Int)+1)=(s.Items.length:Int)+1:=wrap_i64 (by omega) (by omega)
    rw [(decide_eq_false (fun h=>b h.2.1):decide (s.Items.length<60∧r.Id=(s.Items.length:Int)+1∧(r.Origin=0∨r.Origin=1))=false),Bool.false_and]
    exact bndL (cnd_t (decide_eq_true (by omega)) (bnd (congrArg some hw) (cnd_f (beq_eq_false_iff_ne.2 b) rfl))) rfl
  ·rw [(decide_eq_false (fun h=>a h.1):decide (s.Items.length<60∧r.Id=(s.Items.length:Int)+1∧(r.Origin=0∨r.Origin=1))=false),Bool.false_and]
   exact bndL (cnd_f (decide_eq_false (by omega)) rfl) rfl
 rw [if_neg k1]
 refine cnd_f (beq_eq_false_iff_ne.2 k1) ?_
 by_cases k2:r.Kind=2
 ·rw [if_pos k2]
  refine cnd_t (beq_iff_eq.2 k2) ?_
  have hw:IntKind.i64.wrap (s.Packs+1)=s.Packs+1:=wrap_i64 (by omega) (by omega)
  by_cases a:r.Number=s.Packs+1
  ·rw [(decide_eq_true a:decide (r.Number=s.Packs+1)=true),Bool.true_and]
   exact bndL (bnd (congrArg some hw) (cnd_t (beq_iff_eq.2 a) (bnd (ids_eq s hs.ids (by omega) _) rfl))) rfl
  ·rw [(decide_eq_false a:decide (r.Number=s.Packs+1)=false),Bool.false_and]
   exact bndL (bnd (congrArg some hw) (cnd_f (beq_eq_false_iff_ne.2 a) rfl)) rfl
 rw [if_neg k2]
 refine cnd_f (beq_eq_false_iff_ne.2 k2) ?_
 by_cases k3:r.Kind=3
 ·rw [if_pos k3]
  refine cnd_t (beq_iff_eq.2 k3) ?_
  by_cases a:1≤r.Number
  ·by_cases b:r.Number≤s.Packs
   ·refine bndL (s := !decide (r.Number∈s.Sent)) (cnd_t (decide_eq_true a) (cnd_t (decide_eq_true b) (bnd (contains_eq _ _ (by omega)) rfl))) ?_
    by_cases c:r.Number∈s.Sent
    ·rw [(decide_eq_true c:decide (r.Number∈s.Sent)=true),(decide_eq_false (fun h=>h.2.2 c):decide (1≤r.Number∧r.Number≤s.Packs∧r.Number ∉ s.Sent)=false)]; rfl
    ·rw [(decide_eq_false c:decide (r.Number∈s.Sent)=false),(decide_eq_true ⟨a,b,c⟩:decide (1≤r.Number∧r.Number≤s.Packs∧r.Number ∉ s.Sent)=true)]; rfl
   ·rw [(decide_eq_false (fun h=>b h.2.1):decide (1≤r.Number∧r.Number≤s.Packs∧r.Number ∉ s.Sent)=false)]
    exact bndL (cnd_t (decide_eq_true a) (cnd_f (decide_eq_false b) rfl)) rfl
  ·rw [(decide_eq_false (fun h=>a h.1):decide (1≤r.Number∧r.Number≤s.Packs∧r.Number ∉ s.Sent)=false)]
   exact bndL (cnd_f (decide_eq_false a) rfl) rfl
 rw [if_neg k3]
 refine cnd_f (beq_eq_false_iff_ne.2 k3) ?_
 by_cases k4:r.Kind=4
 ·rw [if_pos k4]
  exact cnd_t (beq_iff_eq.2 k4) (bnd (waits_eq s hs.ids (by omega) _) rfl)
 rw [if_neg k4]
 refine cnd_f (beq_eq_false_iff_ne.2 k4) ?_
 by_cases k5:r.Kind=5
 ·rw [if_pos k5]
  refine cnd_t (beq_iff_eq.2 k5) ?_
  cases ho:opn s r.Number
  ·exact bndL (s:=false) (bnd (open_eq hs _) (cnd_f ho rfl)) rfl
  ·exact bndL (s:=ckB s r) (bnd (open_eq hs _) (cnd_t ho (bnd (chunk_eq hs hr) rfl))) rfl
 rw [if_neg k5]
 refine cnd_f (beq_eq_false_iff_ne.2 k5) ?_
 by_cases k6:r.Kind=6
 ·rw [if_pos k6]
  exact cnd_t (beq_iff_eq.2 k6) (bnd (open_eq hs _) rfl)
 rw [if_neg k6]
 exact cnd_f (beq_eq_false_iff_ne.2 k6) rfl
def upd {A:Type} (f:A→A) (k:Nat) (l:List A):List A:=(l.take k).map f++l.drop k
theorem upd_len {A:Type} (f:A→A) (k:Nat) (l:List A):(upd f k l).length=l.length:=by simp [upd]; omega
theorem upd_get {A:Type} (f:A→A) {k:Nat} {l:List A} (h:k<l.length):getO (upd f k l) k=some l[k]:=by
 simp only [getO,upd]
 rw [List.getElem?_append_right (by simp; omega)]
 simp [Nat.min_eq_left (Nat.le_of_lt h),h]
theorem upd_succ {A:Type} (f:A→A) {k:Nat} {l:List A} (h:k<l.length):upd f (k+1) l=(l.take k).map f++f l[k]::l.drop (k+1):=by
 simp only [upd]
 rw [take_succ l k h,List.map_append,List.append_assoc]
 rfl
theorem upd_set {A:Type} (f:A→A) {k:Nat} {l:List A} (h:k<l.length) (x:A) (hx:x=f l[k]):(upd f k l).set k x=upd f (k+1) l:=by
 subst hx
 rw [upd_succ f h]
 simp only [upd]
 rw [List.set_append_right _ _ (by simp; omega)]
 congr 1
 rw [show k-((l.take k).map f).length=0 from by simp; omega,List.drop_eq_getElem_cons h]
 rfl
theorem upd_same {A:Type} (f:A→A) {k:Nat} {l:List A} (h:k<l.length) (hx:f l[k]=l[k]):upd f k l=upd f (k+1) l:=by
 rw [upd_succ f h,hx]
 simp only [upd]
 rw [List.drop_eq_getElem_cons h]
theorem upd_all {A:Type} (f:A→A) (l:List A):upd f l.length l=l.map f:=by simp [upd]
def ap2 (s:T_Spool) (p_r:T_Rec):((List T_Item)×Int)→Option (((List T_Item)×Int)⊕(((List T_Item))⊕(((List T_Item)×Int×(List Int)×(List Int)×Int×(List Int))⊕T_Spool))):=(fun ((s158,s159):(List T_Item)×Int) =>
      cond ((decide (s159<(s.Items.length:Int))))
       (bindS (S:=(List T_Item)) (A:=(((List T_Item)×Int)⊕(((List T_Item))⊕(((List T_Item)×Int×(List Int)×(List Int)×Int×(List Int))⊕T_Spool))))
        ((ixO s159 s158.length).bind fun v12 =>
        (getO s158 v12).bind fun v13 =>
        (slices_Contains_int_int p_r.Ids v13.Id).bind fun v14 =>
        cond (v14)
         ((ixO s159 s158.length).bind fun v16 =>
         (getO s158 v16).bind fun v17 =>
         (some (s158.set v16 ((T_Item.mk v17.Id ((T_Mail.mk (T_Path.mk v17.Mail.From.Null v17.Mail.From.Local v17.Mail.From.Domain) v17.Mail.To v17.Mail.Body v17.Mail.Quiet v17.Mail.Helo v17.Mail.At)) 2 v17.Pack)))).bind fun v18 =>
         (ixO s159 v18.length).bind fun v19 =>
         (getO v18 v19).bind fun v20 =>
         (some (v18.set v19 ((T_Item.mk v20.Id ((T_Mail.mk (T_Path.mk v20.Mail.From.Null v20.Mail.From.Local v20.Mail.From.Domain) v20.Mail.To v20.Mail.Body v20.Mail.Quiet v20.Mail.Helo v20.Mail.At)) v20.State p_r.Number)))).bind fun v21 =>
         some (.inl v21))
         (some (.inl s158)))
        (fun (s176:(List T_Item)) =>
         (some (IntKind.i64.wrap (s159+1))).bind fun v27 =>
         some (.inl (s176,v27))) some)
       (some (.inr (.inl s158))))
def ap3 (s:T_Spool) (p_r:T_Rec):((List T_Item)×Int)→Option (((List T_Item)×Int)⊕(((List T_Item))⊕(((List T_Item)×Int×(List Int)×(List Int)×Int×(List Int))⊕T_Spool))):=(fun ((s198,s199):(List T_Item)×Int) =>
       cond ((decide (s199<(s.Items.length:Int))))
        (bindS (S:=(List T_Item)) (A:=(((List T_Item)×Int)⊕(((List T_Item))⊕(((List T_Item)×Int×(List Int)×(List Int)×Int×(List Int))⊕T_Spool))))
         ((ixO s199 s198.length).bind fun v62 =>
         (getO s198 v62).bind fun v63 =>
         cond ((v63.Pack==p_r.Number))
          ((ixO s199 s198.length).bind fun v65 =>
          (getO s198 v65).bind fun v66 =>
          (some (s198.set v65 ((T_Item.mk v66.Id ((T_Mail.mk (T_Path.mk v66.Mail.From.Null v66.Mail.From.Local v66.Mail.From.Domain) v66.Mail.To v66.Mail.Body v66.Mail.Quiet v66.Mail.Helo v66.Mail.At)) 3 v66.Pack)))).bind fun v67 =>
          some (.inl v67))
          (some (.inl s198)))
         (fun (s216:(List T_Item)) =>
          (some (IntKind.i64.wrap (s199+1))).bind fun v73 =>
          some (.inl (s216,v73))) some)
        (some (.inr (.inl s198))))
theorem loop2 (s:T_Spool) (r:T_Rec) (hl:s.Items.length<1000000) (hi:r.Ids.length<1000000):loopF (ap2 s r) BIG (s.Items,0)=some (.inl (s.Items.map (f2 r.Ids r.Number))):=by
 refine loop_from (fun k=>(upd (f2 r.Ids r.Number) k s.Items,(k:Int))) s.Items.length BIG rfl (by simp only [BIG]; omega) (fun k hk => ?_) ?_
 ·have hx:ixO (k:Int) (upd (f2 r.Ids r.Number) k s.Items).length=some k:=ixO_of (by rw [upd_len]; exact hk)
  have hg:=upd_get (f2 r.Ids r.Number) hk
  refine cnd_t (decide_eq_true (by omega)) (bndL (s:=upd (f2 r.Ids r.Number) (k+1) s.Items) (bnd hx (bnd hg (bnd (contains_eq _ _ (by omega)) ?_))) (bnd (congrArg some (wrap_succ (n:=k) (by omega))) rfl))
  by_cases hm:s.Items[k].Id∈r.Ids
  ·refine cnd_t (decide_eq_true hm) (bnd hx (bnd hg (bnd rfl ?_)))
   refine bnd (x:=k) (ixO_of (by rw [List.length_set,upd_len]; exact hk)) (bnd (x:=⟨s.Items[k].Id,s.Items[k].Mail,2,s.Items[k].Pack⟩) ?_ (bnd rfl ?_))
   ·simp only [getO]
    rw [List.getElem?_set_self (by rw [upd_len]; exact hk)]
   ·rw [List.set_set,upd_set (f2 r.Ids r.Number) hk _ (by simp only [f2,if_pos hm])]
  ·exact cnd_f (decide_eq_false hm) (by rw [upd_same (f2 r.Ids r.Number) hk (by simp only [f2,if_neg hm])])
 ·exact cnd_f (decide_eq_false (by omega)) (by simp only [upd_all])
theorem loop3 (s:T_Spool) (r:T_Rec) (hl:s.Items.length<1000000):loopF (ap3 s r) BIG (s.Items,0)=some (.inl (s.Items.map (f3 r.Number))):=by
 refine loop_from (fun k=>(upd (f3 r.Number) k s.Items,(k:Int))) s.Items.length BIG rfl (by simp only [BIG]; omega) (fun k hk => ?_) ?_
 ·have hx:ixO (k:Int) (upd (f3 r.Number) k s.Items).length=some k:=ixO_of (by rw [upd_len]; exact hk)
  have hg:=upd_get (f3 r.Number) hk
  refine cnd_t (decide_eq_true (by omega)) (bndL (s:=upd (f3 r.Number) (k+1) s.Items) (bnd hx (bnd hg ?_)) (bnd (congrArg some (wrap_succ (n:=k) (by omega))) rfl))
  by_cases hm:s.Items[k].Pack=r.Number
  ·refine cnd_t (beq_iff_eq.2 hm) (bnd hx (bnd hg (bnd rfl ?_)))
   rw [upd_set (f3 r.Number) hk _ (by simp only [f3,if_pos hm])]
  ·exact cnd_f (beq_eq_false_iff_ne.2 hm) (by rw [upd_same (f3 r.Number) hk (by simp only [f3,if_neg hm])])
 ·exact cnd_f (decide_eq_false (by omega)) (by simp only [upd_all])
theorem wt_at {s:T_Spool} {n:Int} (h:wt s n=true):∃ (k:Nat) (hk:k<s.Items.length),n=(k:Int)+1∧s.Items[k].State=1:=by
 simp only [wt,Bool.and_eq_true,decide_eq_true_eq] at h
 obtain ⟨⟨h1,h2⟩,h3⟩:=h
 refine ⟨(n-1).toNat,by omega,by omega,?_⟩
 rw [List.getElem?_eq_getElem (by omega)] at h3
 simpa using h3
theorem set4 {s:T_Spool} (hid:Ids s) {k:Nat} (hk:k<s.Items.length):s.Items.set k ⟨s.Items[k].Id,s.Items[k].Mail,4,s.Items[k].Pack⟩=s.Items.map (f4 ((k:Int)+1)):=by
 refine List.ext_getElem (by simp) fun i h1 h2 => ?_
 have hi:i<s.Items.length:=by simpa using h2
 rw [List.getElem_map,List.getElem_set]
 by_cases h:k=i
 ·subst h
  rw [if_pos rfl]
  simp only [f4,if_pos (hid k hk)]
 ·rw [if_neg h]
  have:=hid i hi
  simp only [f4]
  rw [if_neg (by omega)]
theorem apply_eq {n:Nat} {s:T_Spool} {r:T_Rec} (hs:Inv n s) (hr:Rok r) (ho:okS s r=true):spool_apply s r=some (eff s r):=by
 have hl:=hs.len; have hn:=hs.hn; have hp:=hs.part; have hse:=hs.sent; have hd:=hs.done
 have hd6:=hr.1.1; have hi6:=hr.1.2.1
 unfold spool_apply eff
 unfold okS at ho
 rw [Bool.and_eq_true] at ho
 replace ho:=ho.2
 by_cases k1:r.Kind=1
 ·rw [if_pos k1]
  have hA:∀ st:Int,((clone_Mail r.Mail).bind fun v8=>(appO 144 s.Items [(T_Item.mk r.Id v8 st 0)]).bind fun v9=>some (.inl (v9,s.Packs,s.Sent,s.Part,s.Of,s.Done):_⊕T_Spool))=some (.inl (s.Items++[⟨r.Id,r.Mail,st,0⟩],s.Packs,s.Sent,s.Part,s.Of,s.Done)):=fun st =>
   bnd (clone_mail hr.1.2.2) (bnd (app_of (by simp only [List.length_cons,List.length_nil]; omega) (by simp only [List.length_cons,List.length_nil]; omega)) rfl)
  by_cases a:r.Origin=0
  ·rw [if_pos a]
   exact bndL (cnd_t (beq_iff_eq.2 k1) (bndL (s:=3) (cnd_t (beq_iff_eq.2 a) rfl) (hA 3))) rfl
  ·rw [if_neg a]
   exact bndL (cnd_t (beq_iff_eq.2 k1) (bndL (s:=1) (cnd_f (beq_eq_false_iff_ne.2 a) rfl) (hA 1))) rfl
 rw [if_neg k1] at ho ⊢
 by_cases k2:r.Kind=2
 ·rw [if_pos k2]
  exact bndL (cnd_f (beq_eq_false_iff_ne.2 k1) (cnd_t (beq_iff_eq.2 k2) (bndL (loop2 s r (by omega) (by omega)) rfl))) rfl
 rw [if_neg k2] at ho ⊢
 by_cases k3:r.Kind=3
 ·rw [if_pos k3]
  refine bndL (cnd_f (beq_eq_false_iff_ne.2 k1) (cnd_f (beq_eq_false_iff_ne.2 k2) (cnd_t (beq_iff_eq.2 k3) (bndL (loop3 s r (by omega)) (bnd (app_of ?_ ?_) rfl))))) rfl
  ·simp only [List.length_cons,List.length_nil]; omega
  ·simp only [List.length_cons,List.length_nil]; omega
 rw [if_neg k3] at ho ⊢
 by_cases k4:r.Kind=4
 ·rw [if_pos k4] at ho ⊢
  obtain ⟨k,hk,he,_⟩:=wt_at ho
  have hf:=find_eq s hs.ids (by omega) r.Id
  rw [if_pos (by omega),he,Int.add_sub_cancel] at hf
  rw [he,← set4 hs.ids hk]
  exact bndL (cnd_f (beq_eq_false_iff_ne.2 k1) (cnd_f (beq_eq_false_iff_ne.2 k2) (cnd_f (beq_eq_false_iff_ne.2 k3) (cnd_t (beq_iff_eq.2 k4) (bnd (he ▸ hf) (bnd (ixO_of hk) (bnd (by simp [getO,hk]:getO s.Items k=some s.Items[k]) (bnd rfl rfl)))))))) rfl
 rw [if_neg k4] at ho ⊢
 by_cases k5:r.Kind=5
 ·rw [if_pos k5] at ho ⊢
  by_cases a:r.Offset=0
  ·rw [if_pos a,if_pos a]
   exact bndL (cnd_f (beq_eq_false_iff_ne.2 k1) (cnd_f (beq_eq_false_iff_ne.2 k2) (cnd_f (beq_eq_false_iff_ne.2 k3) (cnd_f (beq_eq_false_iff_ne.2 k4) (cnd_t (beq_iff_eq.2 k5) (bndL (cnd_t (beq_iff_eq.2 a) rfl) (bnd (app_nil (by omega) (by omega)) rfl))))))) rfl
  ·rw [if_neg a,if_neg a]
   exact bndL (cnd_f (beq_eq_false_iff_ne.2 k1) (cnd_f (beq_eq_false_iff_ne.2 k2) (cnd_f (beq_eq_false_iff_ne.2 k3) (cnd_f (beq_eq_false_iff_ne.2 k4) (cnd_t (beq_iff_eq.2 k5) (bndL (cnd_f (beq_eq_false_iff_ne.2 a) rfl) (bnd (app_of (by omega) (by omega)) rfl))))))) rfl
 rw [if_neg k5] at ho ⊢
 by_cases k6:r.Kind=6
 ·by_cases a:s.Of=r.Number
  ·rw [if_pos a,if_pos a]
   exact bndL (cnd_f (beq_eq_false_iff_ne.2 k1) (cnd_f (beq_eq_false_iff_ne.2 k2) (cnd_f (beq_eq_false_iff_ne.2 k3) (cnd_f (beq_eq_false_iff_ne.2 k4) (cnd_f (beq_eq_false_iff_ne.2 k5) (cnd_t (beq_iff_eq.2 k6) ((done_ins s.Done r.Number hs.srt (by omega) _).trans (cnd_t (beq_iff_eq.2 a) rfl)))))))) rfl
  ·rw [if_neg a,if_neg a]
   exact bndL (cnd_f (beq_eq_false_iff_ne.2 k1) (cnd_f (beq_eq_false_iff_ne.2 k2) (cnd_f (beq_eq_false_iff_ne.2 k3) (cnd_f (beq_eq_false_iff_ne.2 k4) (cnd_f (beq_eq_false_iff_ne.2 k5) (cnd_t (beq_iff_eq.2 k6) ((done_ins s.Done r.Number hs.srt (by omega) _).trans (cnd_f (beq_eq_false_iff_ne.2 a) rfl)))))))) rfl
 ·rw [if_neg k6] at ho; cases ho
theorem eff5 {s:T_Spool} {r:T_Rec} (h:r.Kind=5):eff s r=⟨s.Items,s.Packs,s.Sent,if r.Offset=0 then r.Data else s.Part++r.Data,if r.Offset=0 then r.Number else s.Of,s.Done⟩:=by unfold eff; rw [if_neg (by omega),if_neg (by omega),if_neg (by omega),if_neg (by omega),if_pos h]
def eiS (l:List T_Item):((List T_Item)×Int)→Option (((List T_Item)×Int)⊕(((List T_Item))⊕(List T_Item))):=(fun ((s10,s11):(List T_Item)×Int) =>
   cond ((decide (s11<(l.length:Int))))
    ((ixO s11 l.length).bind fun v2 =>
    (getO l v2).bind fun v3 =>
    (clone_Item ((T_Item.mk v3.Id ((T_Mail.mk (T_Path.mk v3.Mail.From.Null v3.Mail.From.Local v3.Mail.From.Domain) v3.Mail.To v3.Mail.Body v3.Mail.Quiet v3.Mail.Helo v3.Mail.At)) v3.State v3.Pack))).bind fun v4 =>
    (appO 144 s10 [(T_Item.mk v4.Id ((T_Mail.mk (T_Path.mk v4.Mail.From.Null v4.Mail.From.Local v4.Mail.From.Domain) v4.Mail.To v4.Mail.Body v4.Mail.Quiet v4.Mail.Helo v4.Mail.At)) v4.State v4.Pack)]).bind fun v5 =>
    (some (IntKind.i64.wrap (s11+1))).bind fun v6 =>
    some (.inl (v5,v6)))
    (some (.inr (.inl s10))))
theorem clone_eq {n:Nat} {s:T_Spool} (hs:Inv n s):clone_Spool s=some s:=by
 have hl:=hs.len; have hn:=hs.hn; have hp:=hs.part; have hse:=hs.sent; have hd:=hs.done
 have he:clone_Each_api_Item_of_clone_Item s.Items=some s.Items:=by
  unfold clone_Each_api_Item_of_clone_Item
  refine bndL (s:=s.Items) (loop_from (f:=eiS s.Items) (fun k=>(s.Items.take k,(k:Int))) s.Items.length BIG rfl (by simp only [BIG]; omega) (fun k hk => ?_) ?_) rfl
  ·refine cnd_t (decide_eq_true (by omega)) (bnd (ixO_of hk) (bnd (by simp [getO,hk]:getO s.Items k=some s.Items[k]) (bnd (x:=s.Items[k]) ?_ (bnd (app_of ?_ ?_) (bnd (congrArg some (wrap_succ (n:=k) (by omega))) ?_)))))
   ·unfold clone_Item
    exact bnd (clone_mail (hs.lm _ (List.getElem_mem hk))) rfl
   ·simp; omega
   ·simp; omega
   ·rw [take_succ _ k hk]
  ·exact cnd_f (decide_eq_false (by omega)) (by simp only [List.take_length])
 unfold clone_Spool
 refine bnd he (bnd (x:=s.Sent) ?_ (bnd (x:=s.Part) ?_ (bnd (x:=s.Done) ?_ rfl)))
 ·exact bnd (app_nil (by omega) (by omega)) rfl
 ·exact bnd (app_nil (by omega) (by omega)) rfl
 ·exact bnd (app_nil (by omega) (by omega)) rfl
def noSp:T_Spool:=⟨[],0,[],[],0,[]⟩
theorem add_eq {n:Nat} {s:T_Spool} {r:T_Rec} (hs:Inv n s) (hr:Rok r):spool_Add s r=some (if okS s r=true then (eff s r,0) else (noSp,5)):=by
 unfold spool_Add
 refine bnd (valid_eq hs hr) ?_
 cases ho:okS s r
 ·exact cnd_t rfl rfl
 ·exact cnd_f rfl (bnd (clone_eq hs) (bnd (apply_eq hs hr ho) rfl))
end Go.Abs.Sh
