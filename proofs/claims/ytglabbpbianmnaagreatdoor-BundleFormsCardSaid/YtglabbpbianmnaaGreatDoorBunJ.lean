import Derived.Test.YtglabbpbianmnaaGreatDoorBunI
import Derived.Lib.Bytealg
namespace Go.Abs.Sh
set_option linter.unusedVariables false
set_option linter.unusedSimpArgs false
set_option maxRecDepth 100000
def gsS (sep:ByteArray) (sepSave v14:Int):((ByteArray×(List ByteArray)×Int))→Option ((ByteArray×(List ByteArray)×Int)⊕((ByteArray×(List ByteArray)×Int)⊕(List ByteArray))):=(fun ((s65,s66,s67):ByteArray×(List ByteArray)×Int) =>
     cond ((decide (s67<v14)))
      ((strings_Index s65 sep).bind fun v16 =>
      cond ((decide (v16<0)))
       (some (.inr (.inl (s65,s66,s67))))
       ((some (IntKind.i64.wrap (v16+sepSave))).bind fun v18 =>
       (subO s65 0 v18).bind fun v19 =>
       (ixO s67 s66.length).bind fun v20 =>
       (some (s66.set v20 v19)).bind fun v21 =>
       (some (IntKind.i64.wrap (v16+(sep.size:Int)))).bind fun v22 =>
       (subO s65 v22 (s65.size:Int)).bind fun v23 =>
       (some (IntKind.i64.wrap (s67+1))).bind fun v24 =>
       some (.inl (v23,v21,v24))))
      (some (.inr (.inl (s65,s66,s67)))))
def phS (v9:List ByteArray):(((List Int)×Int))→Option (((List Int)×Int)⊕(((List Int))⊕(T_bundle_header×Bool))):=(fun ((s22,s23):(List Int)×Int) =>
    cond ((decide (s23<(v9.length:Int))))
     ((ixO s23 v9.length).bind fun v11 =>
     (getO v9 v11).bind fun v12 =>
     (number_Parse v12 10).bind fun v13 =>
     cond ((!v13.2))
      (some (.inr (.inr (((T_bundle_header.mk 0 0 0 0),false)))))
      ((ixO s23 5).bind fun v15 =>
      (setO s22 v15 v13.1).bind fun v16 =>
      (some (IntKind.i64.wrap (s23+1))).bind fun v17 =>
      some (.inl (v16,v17))))
     (some (.inr (.inl s22))))
theorem count_spl:∀ (l:List UInt8),(spl 32 (l.map fun b=>((b.toNat:Nat):Int))).length=Lib.countByte l 32+1
 | []=>rfl
 | b::l=>by
  have ih:=count_spl l
  unfold Lib.countByte at ih ⊢
  rw [List.map_cons,List.count_cons]
  unfold spl
  by_cases h:b=32
  ·subst h
   rw [if_pos (by decide),List.length_cons,ih]
   simp
  ·have h2:¬ ((b.toNat:Nat):Int)=32:=fun e=>h (UInt8.toNat_inj.1 (show b.toNat=32 by omega))
   rw [if_neg h2]
   have h3:(b==32)=false:=beq_eq_false_iff_ne.2 h
   rw [h3]
   cases hs:spl 32 (l.map fun b=>((b.toNat:Nat):Int)) with
   | nil=>exact absurd hs (spl_ne _ _)
   | cons p ps=>rw [hs] at ih; simpa using ih
theorem spl_first {c:Int} {l:List Int} (h:c∈l):∃ p r,l=p++c::r∧c ∉ p:=by
 cases hi:idx1 c l with
 | none=>exact absurd h (idx1_none.1 hi)
 | some e =>
  obtain ⟨h1,h2,h3⟩:=idx1_some hi
  exact ⟨_,_,h2,h3⟩
theorem set_fill {A:Type} (L:List A) (x e:A) (k:Nat):(L++List.replicate (k+1) e).set L.length x=(L++[x])++List.replicate k e:=by
 rw [List.set_append_right _ _ (Nat.le_refl _),Nat.sub_self,List.replicate_succ,List.set_cons_zero,List.append_assoc]
 rfl
theorem gs_loop:∀ (k:Nat) (l:List Int) (L:List ByteArray) (fuel:Nat),byt l→(spl 32 l).length=k+1→k<fuel→l.length<1000000→L.length+k<1000000 →
  ∃ a x,spl 32 l=a++[x]∧loopF (gsS (⟨#[32]⟩:ByteArray) 0 ((L.length+k:Nat):Int)) fuel (bstr l,L++List.replicate (k+1) (⟨#[]⟩:ByteArray),(L.length:Int))=some (.inl (bstr x,L++a.map bstr++[(⟨#[]⟩:ByteArray)],((L.length+k:Nat):Int)))
 | 0,l,L,fuel,hb,hl,hf,hL,hk=>by
  obtain ⟨f,rfl⟩:∃ f,fuel=f+1:=⟨fuel-1,by omega⟩
  have h32:(32:Int) ∉ l:=by
   intro h
   obtain ⟨p,r,e,hp⟩:=spl_first h
   rw [e,spl_app hp,List.length_cons] at hl
   have:=List.length_pos_iff.2 (spl_ne 32 r)
   omega
  refine ⟨[],l,by rw [spl_one h32]; rfl,?_⟩
  exact loop_exit (cnd_f (decide_eq_false (by omega)) (by simp))
 | k+1,l,L,fuel,hb,hl,hf,hL,hk=>by
  obtain ⟨f,rfl⟩:∃ f,fuel=f+1:=⟨fuel-1,by omega⟩
  have h32:(32:Int)∈l:=by
   apply Classical.byContradiction
   intro h
   rw [spl_one h] at hl
   simp at hl
  obtain ⟨p,r,e,hp⟩:=spl_first h32
  have hsp:spl 32 l=p::spl 32 r:=by rw [e,spl_app hp]
  have hbp:byt p:=fun x hx=>hb x (by rw [e]; exact List.mem_append_left _ hx)
  have hbr:byt r:=fun x hx=>hb x (by rw [e]; exact List.mem_append_right _ (List.mem_cons_of_mem _ hx))
  have hlen:l.length=p.length+(r.length+1):=by rw [e]; simp
  have hix:=sIndex (n:=32) (by decide) (bstr l)
  rw [sbytes_bstr hb,show ((32:Nat):Int)=32 from rfl,e,idx1_app hp,← e] at hix
  have hsz:(bstr l).size=l.length:=bstr_size l
  have s1:=sub_of (s:=bstr l) (a:=0) (b:=p.length) (by omega) (by omega)
  have s2:=sub_of (s:=bstr l) (a:=p.length+1) (b:=(bstr l).size) (by omega) (by omega)
  have e1:((sbytes (bstr l)).drop 0).take (p.length-0)=p:=by rw [sbytes_bstr hb,e]; simp
  have e2:((sbytes (bstr l)).drop (p.length+1)).take ((bstr l).size-(p.length+1))=r:=by
   rw [sbytes_bstr hb,hsz,hlen]
   have:l=(p++[32])++r:=by rw [e]; simp
   rw [this,List.drop_append_of_le_length (by simp),List.drop_of_length_le (by simp),List.nil_append,List.take_of_length_le (by omega)]
  rw [e1] at s1
  rw [e2] at s2
  obtain ⟨a,x,ha,hr⟩:=gs_loop k r (L++[bstr p]) f hbr (by rw [hsp] at hl; simpa using hl) (by omega) (by omega) (by simp; omega)
  refine ⟨p::a,x,by rw [hsp,ha]; rfl,?_⟩
  have hw:((L.length+(k+1):Nat):Int)=(((L++[bstr p]).length+k:Nat):Int):=by simp; omega
  rw [hw]
  refine (loop_next (cnd_t (decide_eq_true (by simp; omega)) (bnd hix (cnd_f (decide_eq_false (by simp)) (bnd (some_wrap (n:=(p.length:Int)+0) (by omega) (by omega)) (bnd (x:=bstr p) (by rw [Int.add_zero]; exact s1)
   (bnd (ixO_of (i:=L.length) (by simp)) (bnd (congrArg some (set_fill _ _ _ _)) (bnd (x:=((p.length+1:Nat):Int)) (by rw [show (((⟨#[32]⟩:ByteArray).size:Nat):Int)=1 from rfl]; exact congrArg some (wrap_succ (by omega)))
   (bnd s2 (bnd (congrArg some (wrap_succ (n:=L.length) (by omega))) rfl))))))))))).trans ?_
  have:=hr
  simp only [List.length_append,List.length_cons,List.length_nil] at this ⊢
  rw [this]
  simp
theorem split_eq {l:List Int} (hb:byt l) (hl:l.length≤5000):strings_Split (bstr l) (⟨#[32]⟩:ByteArray)=some ((spl 32 l).map bstr):=by
 have hc:=count_spl (bstr l).data.toList
 have hsb:(bstr l).data.toList.map (fun b=>((b.toNat:Nat):Int))=l:=sbytes_bstr hb
 rw [hsb] at hc
 have hcL:Lib.countByte (bstr l).data.toList 32≤l.length:=by
  unfold Lib.countByte
  refine Nat.le_trans List.count_le_length ?_
  have:(bstr l).data.toList.length=l.length:=by
   have:=congrArg List.length hsb
   simpa using this
  omega
 generalize hk:Lib.countByte (bstr l).data.toList 32=k at *
 have hcnt:strings_Count (bstr l) (⟨#[32]⟩:ByteArray)=some (k:Int):=by rw [← hk]; rfl
 obtain ⟨a,x,ha,hloop⟩:=gs_loop k l [] BIG hb hc (by simp only [BIG]; omega) (by omega) (by simp; omega)
 have hsz:(bstr l).size=l.length:=bstr_size l
 simp only [List.length_nil,List.nil_append,Nat.zero_add] at hloop
 have hal:a.length=k:=by rw [ha] at hc; simpa using hc
 unfold strings_Split strings_genSplit
 refine bnd (cnd_f rfl (cnd_f (by rw [isE]; rfl) (bndL (cnd_t rfl (bnd hcnt (bnd (congrArg some (wrap_succ (n:=k) (by omega))) rfl))) (bnd (congrArg some (wrap_succ (n:=(bstr l).size) (by omega))) (bnd (x:=((k+1:Nat):Int)) (by rw [if_neg (by omega)])
  (bnd (x:=List.replicate (k+1) (⟨#[]⟩:ByteArray)) ?_ (bnd (x:=(k:Int)) (by rw [wrap_i64 (by omega) (by omega)]; congr 1; omega) (bndL hloop ?_)))))))) rfl
 ·unfold mkO
  rw [if_pos (by omega)]
  simp
 ·have hset:(a.map bstr++[(⟨#[]⟩:ByteArray)]).set k (bstr x)=(spl 32 l).map bstr:=by
   have:=set_fill (a.map bstr) (bstr x) (⟨#[]⟩:ByteArray) 0
   rw [List.length_map,hal] at this
   rw [show [(⟨#[]⟩:ByteArray)]=List.replicate (0+1) (⟨#[]⟩:ByteArray) from rfl,this,ha]
   simp
  have hsl:=sli_nat ((spl 32 l).map bstr) (a:=0) (b:=k+1) (by omega) (by rw [List.length_map,hc]; exact Nat.le_refl _)
  refine bnd (ixO_of (i:=k) (by simp [hal])) (bnd (congrArg some hset) (bnd (congrArg some (wrap_succ (n:=k) (by omega))) (bnd hsl ?_)))
  rw [List.drop_zero,Nat.sub_zero,List.take_of_length_le (by rw [List.length_map,hc]; exact Nat.le_refl _)]
end Go.Abs.Sh
