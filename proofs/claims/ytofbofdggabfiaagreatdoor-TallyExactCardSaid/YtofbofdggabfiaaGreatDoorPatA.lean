import Derived.Test.YtofbofdggabfiaaGreatDoorStrM
import Derived.KernelRfl
namespace Go.Abs.Sh
set_option linter.unusedVariables false
set_option linter.unusedSimpArgs false
def idx1 (c:Int):List Int→Option Nat
 | []=>none
 | x::l=>if x=c then some 0 else (idx1 c l).map (· + 1)
theorem idx1_none {c:Int}:∀ {l:List Int},idx1 c l=none↔c ∉ l
 | []=>by simp [idx1]
 | x::l=>by
  have ih:=idx1_none (c:=c) (l:=l)
  unfold idx1
  by_cases h:x=c
  ·simp [h]
  ·rw [if_neg h]
   simp only [Option.map_eq_none_iff,ih,List.mem_cons,not_or]
   exact ⟨fun h2=>⟨fun e=>h e.symm,h2⟩,fun h2=>h2.2⟩
theorem idx1_some {c:Int}:∀ {l:List Int} {e:Nat},idx1 c l=some e→e+1≤l.length∧l=l.take e++c::l.drop (e+1)∧c ∉ l.take e
 | [],e,h=>by simp [idx1] at h
 | x::l,e,h=>by
  unfold idx1 at h
  split at h
  ·rename_i hx
   cases h; subst hx; simp
  ·rename_i hx
   cases hi:idx1 c l with
   | none=>simp [hi] at h
   | some k =>
    simp [hi] at h
    subst h
    obtain ⟨h1,h2,h3⟩:=idx1_some hi
    refine ⟨by simp; omega,?_,?_⟩
    ·simp only [List.take_succ_cons,List.cons_append,List.drop_succ_cons]
     rw [← h2]
    ·simp only [List.take_succ_cons,List.mem_cons,not_or]
     exact ⟨fun e=>hx e.symm,h3⟩
theorem idx1_app {c:Int}:∀ {p r:List Int},c ∉ p→idx1 c (p++c::r)=some p.length
 | [],r,_=>by simp [idx1]
 | x::p,r,h=>by
  simp only [List.mem_cons,not_or] at h
  rw [List.cons_append]
  unfold idx1
  rw [if_neg (fun e=>h.1 e.symm),idx1_app h.2]
  simp
theorem indexByte_eq {n:Nat} (hn:n<256):∀ (l:List UInt8),Lib.indexByte l (UInt8.ofNat n)=match idx1 (n:Int) (l.map fun b=>(b.toNat:Int)) with | none => -1 | some e=>(e:Int)
 | []=>rfl
 | b::l=>by
  have ih:=indexByte_eq hn l
  unfold Lib.indexByte
  rw [List.map_cons]
  unfold idx1
  have hb:(b==UInt8.ofNat n)=decide ((b.toNat:Int)=(n:Int)):=by
   rw [Bool.eq_iff_iff,decide_eq_true_eq,beq_iff_eq]
   constructor
   ·rintro rfl; simp; omega
   ·intro h
    apply UInt8.toNat_inj.1
    simp; omega
  rw [hb]
  by_cases h:(b.toNat:Int)=(n:Int)
  ·rw [if_pos (decide_eq_true h),if_pos h]; rfl
  ·rw [if_neg (by simpa using h),if_neg h,ih]
   cases idx1 (n:Int) (l.map fun b=>(b.toNat:Int)) with
   | none=>rfl
   | some k =>
    have:((k:Int) == -1)=false:=beq_eq_false_iff_ne.2 (by omega)
    simp only [this,Bool.false_eq_true,if_false,Option.map_some]
    rfl
theorem sIndex {n:Nat} (hn:n<256) (s:ByteArray):strings_Index s ⟨#[UInt8.ofNat n]⟩=some (match idx1 (n:Int) (sbytes s) with | none => -1 | some e=>(e:Int)):=by
 unfold strings_Index
 have:=indexByte_eq hn s.data.toList
 simp only [this]
 rfl
def spl (c:Int):List Int→List (List Int)
 | []=>[[]]
 | x::l=>if x=c then []::spl c l else match spl c l with
  | []=>[[x]]
  | p::ps=>(x::p)::ps
theorem spl_ne (c:Int):∀ l,spl c l≠[]
 | []=>by simp [spl]
 | x::l=>by
  unfold spl
  split
  ·simp
  ·split <;> simp
theorem spl_one {c:Int}:∀ {l:List Int},c ∉ l→spl c l=[l]
 | [],_=>rfl
 | x::l,h=>by
  simp only [List.mem_cons,not_or] at h
  unfold spl
  rw [if_neg (fun e=>h.1 e.symm),spl_one h.2]
theorem spl_app {c:Int}:∀ {p r:List Int},c ∉ p→spl c (p++c::r)=p::spl c r
 | [],r,_=>by simp [spl]
 | x::p,r,h=>by
  simp only [List.mem_cons,not_or] at h
  rw [List.cons_append]
  conv=>lhs; unfold spl
  rw [if_neg (fun e=>h.1 e.symm),spl_app h.2]
def folS {X S O:Type} (step:X→S→Option (S⊕O)):List X→S→Option (S⊕O)
 | [],s=>some (.inl s)
 | x::l,s=>match step x s with
  | none=>none
  | some (.inl s')=>folS step l s'
  | some (.inr o)=>some (.inr o)
def splB (c:Int) (s:ByteArray):List ByteArray:=(spl c (sbytes s)).map bstr
theorem wrap_i {n:Int} (h0 : -9223372036854775808≤n) (h1:n<9223372036854775808):some (IntKind.i64.wrap n)=some n:=by rw [wrap_i64 h0 h1]
theorem split_range {S O:Type} (n:Nat) (hn:n<256) (step:ByteArray→S→Option (S⊕O)) (s:ByteArray) (st:S) (hs:s.size<4611686018427387904) (r:S⊕O) (hr:folS step (splB (n:Int) s) st=some r) :
  rangeS (S:=S) (O:=O) (fun Y st=>strings_splitSeq_1 Y ⟨#[UInt8.ofNat n]⟩ s 0 st) step st=some r:=by
 unfold rangeS strings_splitSeq_1
 refine cnd_f rfl ?_
 have key:∀ (k:Nat) (s:ByteArray) (st:S) (fuel:Nat),s.size=k→k<4611686018427387904→k<fuel→folS step (splB (n:Int) s) st=some r →
   bindS (S:=(ByteArray×(S⊕O))) (A:=S⊕O)
    (loopF (S:=(ByteArray×(S⊕O))) (O:=(ByteArray×(S⊕O))⊕(S⊕O)) (fun ((s37,s38):ByteArray×(S⊕O)) =>
     (strings_Index s37 ⟨#[UInt8.ofNat n]⟩).bind fun v25 =>
     cond ((decide (v25<0)))
      (some (.inr (.inl (s37,s38))))
      ((some (IntKind.i64.wrap (v25+0))).bind fun v27 =>
      (subO s37 0 v27).bind fun v28 =>
      (rangeY step v28 s38).bind fun v29 =>
      cond ((!v29.2))
       (some (.inr (.inr (v29.1))))
       ((some (IntKind.i64.wrap (v25+((⟨#[UInt8.ofNat n]⟩:ByteArray).size:Int)))).bind fun v31 =>
       (subO s37 v31 (s37.size:Int)).bind fun v32 =>
       some (.inl (v32,v29.1)))))
     fuel (s,.inl st))
    (fun ((s41,s42):ByteArray×(S⊕O)) =>
     (rangeY step s41 s42).bind fun v51 =>
     some (v51.1)) some=some r:=by
  intro k
  induction k using Nat.strongRecOn with
  | _ k ih =>
   intro s st fuel hk hb hf hr
   obtain ⟨f,rfl⟩:∃ f,fuel=f+1:=⟨fuel-1,by omega⟩
   cases hi:idx1 (n:Int) (sbytes s) with
   | none =>
    rw [loop_exit (o := .inl (s,.inl st)) (by
     refine bnd (sIndex hn s) ?_
     rw [hi]
     exact cnd_t rfl rfl)]
    have h1:splB (n:Int) s=[s]:=by
     unfold splB
     rw [spl_one (idx1_none.1 hi)]
     simp [bstr_sbytes]
    rw [h1] at hr
    simp only [folS] at hr
    show ((rangeY step s (.inl st)).bind fun v51=>some (v51.1))=some r
    simp only [rangeY]
    cases hst:step s st with
    | none=>rw [hst] at hr; cases hr
    | some u =>
     rw [hst] at hr
     cases u with
     | inl s'=>simpa using hr
     | inr o=>simpa using hr
   | some e =>
    obtain ⟨h1,h2,h3⟩:=idx1_some hi
    rw [sbytes_len] at h1
    have h4:splB (n:Int) s=bstr ((sbytes s).take e)::splB (n:Int) (bstr ((sbytes s).drop (e+1))):=by
     unfold splB
     rw [sbytes_bstr (byt_drop (byt_sbytes s) _)]
     conv=>lhs; rw [h2]
     rw [spl_app h3,List.map_cons]
    rw [h4] at hr
    simp only [folS] at hr
    have e1:subO s 0 (e:Int)=some (bstr ((sbytes s).take e)):=by
     have:=sub_of (s:=s) (a:=0) (b:=e) (by omega) (by omega)
     simpa using this
    have e2:subO s ((e:Int)+1) (s.size:Int)=some (bstr ((sbytes s).drop (e+1))):=by
     have:=sub_of (s:=s) (a:=e+1) (b:=s.size) (by omega) (by omega)
     rw [List.take_of_length_le (by simp [sbytes_len])] at this
     simpa using this
    have w1:some (IntKind.i64.wrap ((e:Int)+0))=some (e:Int):=by rw [wrap_i (by omega) (by omega)]; simp
    have w2:some (IntKind.i64.wrap ((e:Int)+((⟨#[UInt8.ofNat n]⟩:ByteArray).size:Int)))=some ((e:Int)+1):=by
     show some (IntKind.i64.wrap ((e:Int)+1))=_
     rw [wrap_i (by omega) (by omega)]
    have hsz:(bstr ((sbytes s).drop (e+1))).size=s.size-(e+1):=by rw [bstr_size,List.length_drop,sbytes_len]
    cases hst:step (bstr ((sbytes s).take e)) st with
    | none=>rw [hst] at hr; cases hr
    | some u =>
     rw [hst] at hr
     cases u with
     | inl s' =>
      rw [loop_next (s':=(bstr ((sbytes s).drop (e+1)),.inl s')) (by
       refine bnd (sIndex hn s) ?_
       rw [hi]
       refine cnd_f (decide_eq_false (by show ¬ ((e:Int)<0); omega)) (bnd w1 (bnd e1 (bnd (x:=(.inl s',true)) (by simp [rangeY,hst]) (cnd_f rfl (bnd w2 (bnd e2 rfl))))))
       )]
      exact ih _ (by rw [hsz]; omega) _ s' f rfl (by omega) (by omega) hr
     | inr o =>
      rw [loop_exit (o := .inr (.inr o)) (by
       refine bnd (sIndex hn s) ?_
       rw [hi]
       exact cnd_f (decide_eq_false (by show ¬ ((e:Int)<0); omega)) (bnd w1 (bnd e1 (bnd (x:=(.inr o,false)) (by simp [rangeY,hst]) (cnd_t rfl rfl))))
       )]
      exact hr
 exact key _ s st BIG rfl hs (by unfold BIG; omega) hr
end Go.Abs.Sh
