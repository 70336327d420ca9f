import Derived.Test.YtofbofdggabfiaaGreatDoorPatB
namespace Go.Abs.Sh
set_option linter.unusedVariables false
set_option linter.unusedSimpArgs false
theorem hasPrefix_eq (s p:ByteArray):internal_stringslite_HasPrefix s p=some (decide (sbytes p <+: sbytes s)):=by
 unfold internal_stringslite_HasPrefix
 by_cases h:p.size≤s.size
 ·have e:=sub_of (s:=s) (a:=0) (b:=p.size) (by omega) h
  refine bndL (s:=decide (sbytes p <+: sbytes s)) (cnd_t (decide_eq_true (by omega)) (bnd e ?_)) rfl
  congr 2
  rw [toList_beq]
  congr 1
  rw [str_eq_iff,sbytes_bstr (byt_take (byt_drop (byt_sbytes s) 0) _),List.prefix_iff_eq_take,sbytes_len]
  simp only [List.drop_zero,Nat.sub_zero,eq_iff_iff]
  exact eq_comm
 ·refine bndL (s:=false) (cnd_f (decide_eq_false (by omega)) rfl) ?_
  rw [decide_eq_false]
  intro hp
  have:=hp.length_le
  rw [sbytes_len,sbytes_len] at this
  omega
theorem cutPrefix_eq (s p:ByteArray):strings_CutPrefix s p=some (if sbytes p <+: sbytes s then (bstr ((sbytes s).drop p.size),true) else (s,false)):=by
 unfold strings_CutPrefix internal_stringslite_CutPrefix
 refine bnd (x:=if sbytes p <+: sbytes s then (bstr ((sbytes s).drop p.size),true) else (s,false)) (bnd (hasPrefix_eq s p) ?_) (by split <;> rfl)
 by_cases h:sbytes p <+: sbytes s
 ·rw [if_pos h]
  have hl:=h.length_le
  rw [sbytes_len,sbytes_len] at hl
  have e:=sub_of (s:=s) (a:=p.size) (b:=s.size) hl (Nat.le_refl _)
  rw [List.take_of_length_le (by simp [sbytes_len])] at e
  exact cnd_f (by rw [decide_eq_true h]; rfl) (bnd e rfl)
 ·rw [if_neg h]
  exact cnd_t (by rw [decide_eq_false h]; rfl) rfl
theorem hasSuffix_eq (s p:ByteArray) (hs:s.size<4611686018427387904):internal_stringslite_HasSuffix s p=some (decide (sbytes p <:+ sbytes s)):=by
 unfold internal_stringslite_HasSuffix
 by_cases h:p.size≤s.size
 ·have e:=sub_of (s:=s) (a:=s.size-p.size) (b:=s.size) (by omega) (Nat.le_refl _)
  have w:some (IntKind.i64.wrap ((s.size:Int)-(p.size:Int)))=some ((s.size-p.size:Nat):Int):=by
   rw [wrap_i (by omega) (by omega)]; congr 1; omega
  refine bndL (s:=decide (sbytes p <:+ sbytes s)) (cnd_t (decide_eq_true (by omega)) (bnd w (bnd e ?_))) rfl
  congr 2
  rw [toList_beq]
  congr 1
  rw [str_eq_iff,sbytes_bstr (byt_take (byt_drop (byt_sbytes s) _) _),List.suffix_iff_eq_drop,sbytes_len,sbytes_len,List.take_of_length_le (by simp [sbytes_len])]
  simp only [eq_iff_iff]
  exact eq_comm
 ·refine bndL (s:=false) (cnd_f (decide_eq_false (by omega)) rfl) ?_
  rw [decide_eq_false]
  intro hp
  have:=hp.length_le
  rw [sbytes_len,sbytes_len] at this
  omega
theorem cutSuffix_eq (s p:ByteArray) (hs:s.size<4611686018427387904):strings_CutSuffix s p=some (if sbytes p <:+ sbytes s then (bstr ((sbytes s).take (s.size-p.size)),true) else (s,false)):=by
 unfold strings_CutSuffix internal_stringslite_CutSuffix
 refine bnd (x:=if sbytes p <:+ sbytes s then (bstr ((sbytes s).take (s.size-p.size)),true) else (s,false)) (bnd (hasSuffix_eq s p hs) ?_) (by split <;> rfl)
 by_cases h:sbytes p <:+ sbytes s
 ·rw [if_pos h]
  have hl:=h.length_le
  rw [sbytes_len,sbytes_len] at hl
  have e:=sub_of (s:=s) (a:=0) (b:=s.size-p.size) (by omega) (by omega)
  have w:some (IntKind.i64.wrap ((s.size:Int)-(p.size:Int)))=some ((s.size-p.size:Nat):Int):=by
   rw [wrap_i (by omega) (by omega)]; congr 1; omega
  refine cnd_f (by rw [decide_eq_true h]; rfl) (bnd w (bnd e rfl))
 ·rw [if_neg h]
  exact cnd_t (by rw [decide_eq_false h]; rfl) rfl
theorem cut_eq {n:Nat} (hn:n<256) (s:ByteArray) (hs:s.size<4611686018427387904):strings_Cut s ⟨#[UInt8.ofNat n]⟩=some (match idx1 (n:Int) (sbytes s) with
  | some e=>(bstr ((sbytes s).take e),bstr ((sbytes s).drop (e+1)),true)
  | none=>(s,(⟨#[]⟩:ByteArray),false)):=by
 unfold strings_Cut internal_stringslite_Cut
 cases hi:idx1 (n:Int) (sbytes s) with
 | none =>
  refine bnd (x:=(s,(⟨#[]⟩:ByteArray),false)) (bnd (sIndex hn s) ?_) rfl
  rw [hi]
  exact cnd_f rfl rfl
 | some e =>
  obtain ⟨h1,_,_⟩:=idx1_some hi
  rw [sbytes_len] at h1
  have e1:subO s 0 (e:Int)=some (bstr ((sbytes s).take e)):=by
   have:=sub_of (s:=s) (a:=0) (b:=e) (by omega) (by omega)
   simpa using this
  have e2:subO s ((e:Int)+1) (s.size:Int)=some (bstr ((sbytes s).drop (e+1))):=by
   have:=sub_of (s:=s) (a:=e+1) (b:=s.size) (by omega) (by omega)
   rw [List.take_of_length_le (by simp [sbytes_len])] at this
   simpa using this
  have w2:some (IntKind.i64.wrap ((e:Int)+((⟨#[UInt8.ofNat n]⟩:ByteArray).size:Int)))=some ((e:Int)+1):=by
   show some (IntKind.i64.wrap ((e:Int)+1))=_
   rw [wrap_i (by omega) (by omega)]
  refine bnd (x:=(bstr ((sbytes s).take e),bstr ((sbytes s).drop (e+1)),true)) (bnd (sIndex hn s) ?_) rfl
  rw [hi]
  exact cnd_t (decide_eq_true (by show (0:Int)≤(e:Int); omega)) (bnd e1 (bnd w2 (bnd e2 rfl)))
def e0:ByteArray:=⟨#[]⟩
def noP:T_Path:=⟨false,e0,e0⟩
def nulP:T_Path:=⟨true,e0,e0⟩
def midL (l:List Int):Option (List Int):=if l.head? = some 60∧2≤l.length∧l.getLast? = some 62 then some ((l.drop 1).take (l.length-2)) else none
def boxL (m:List Int):Option T_Path:=match idx1 64 m with
 | none=>none
 | some e=>some ⟨false,bstr (m.take e),bstr (m.drop (e+1))⟩
def parL (l:List Int):Option T_Path:=if l=[60,62] then some nulP else match midL l with
 | none=>none
 | some m=>match boxL m with
  | none=>none
  | some p=>if patB p=true then some p else none
theorem ns2 (s:ByteArray):(s.toList==(⟨#[60,62]⟩:ByteArray).toList)=decide (sbytes s=[60,62]):=by
 rw [toList_beq]
 congr 1
 rw [str_eq_iff]
 rfl
theorem pre1 (c:Int) (l:List Int):[c] <+: l↔l.head? = some c:=by
 cases l with
 | nil=>simp
 | cons x l=>simp [List.cons_prefix_cons,eq_comm]
theorem suf1 (c:Int) (l:List Int):[c] <:+ l↔l.getLast? = some c:=by
 rw [← List.reverse_prefix]
 show [c] <+: l.reverse↔_
 rw [pre1,List.head?_reverse]
theorem sb60:sbytes (⟨#[60]⟩:ByteArray)=[60]:=rfl
theorem sb62:sbytes (⟨#[62]⟩:ByteArray)=[62]:=rfl
theorem size_sb (s:ByteArray):s.size=(sbytes s).length:=(sbytes_len s).symm
theorem mid_cases (l:List Int):(∃ m,l=60::(m++[62])∧midL l=some m)∨midL l=none:=by
 unfold midL
 split
 ·rename_i h
  obtain ⟨h1,h2,h3⟩:=h
  left
  cases l with
  | nil=>simp at h1
  | cons x r =>
   simp at h1
   subst h1
   have hr:r≠[]:=by intro e; subst e; simp at h2
   have h4:r.getLast? = some 62:=by
    rw [List.getLast?_cons,List.getLast?_eq_some_getLast hr] at h3
    rw [List.getLast?_eq_some_getLast hr]
    simpa using h3
   obtain ⟨m,hm⟩:∃ m,r=m++[62]:=by
    rw [List.getLast?_eq_some_iff] at h4
    exact h4
   refine ⟨m,by rw [hm],?_⟩
   subst hm
   simp
 ·right; rfl
theorem midL_mk (m:List Int):midL (60::(m++[62]))=some m:=by
 unfold midL
 rw [if_pos ⟨rfl,by simp,by rw [← List.cons_append,List.getLast?_concat]⟩]
 simp
theorem midL_none {l:List Int} (h:midL l=none):l.head? ≠ some 60∨(l.drop 1).getLast? ≠ some 62:=by
 unfold midL at h
 split at h
 ·cases h
 ·rename_i hn
  by_cases h1:l.head? = some 60
  ·right
   intro h2
   apply hn
   cases l with
   | nil=>simp at h1
   | cons x r =>
    simp at h2
    have hr:r≠[]:=by intro e; subst e; simp at h2
    refine ⟨h1,by have:=List.length_pos_iff.2 hr; simp; omega,?_⟩
    rw [List.getLast?_cons,h2]; rfl
  ·exact .inl h1
theorem parse_eq (s:ByteArray) (hs:s.size<1152921504606846976):path_Parse s=some (match parL (sbytes s) with | some p=>(p,0) | none=>(noP,5)):=by
 unfold path_Parse parL
 by_cases h2:sbytes s=[60,62]
 ·rw [if_pos h2]
  exact cnd_t (by rw [ns2]; exact decide_eq_true h2) rfl
 ·rw [if_neg h2]
  refine cnd_f (by rw [ns2]; exact decide_eq_false h2) ?_
  have b1:=cutPrefix_eq s (⟨#[60]⟩:ByteArray)
  simp only [sb60,pre1] at b1
  refine bnd b1 ?_
  have tot:∀ (x:ByteArray×Bool),x.1.size≤s.size→∀ y:ByteArray×Bool,y=(if [62] <:+ sbytes x.1 then (bstr ((sbytes x.1).take (x.1.size-(⟨#[62]⟩:ByteArray).size)),true) else (x.1,false)) →
    ∀ z:ByteArray×ByteArray×Bool,z=(match idx1 64 (sbytes y.1) with
     | some e=>(bstr ((sbytes y.1).take e),bstr ((sbytes y.1).drop (e+1)),true)
     | none=>(y.1,(⟨#[]⟩:ByteArray),false))→∀ r,(bindS (S:=Bool) (A:=(T_Path×Int))
   (cond ((!x.2))
    (some (.inl true))
    (cond ((!y.2))
     (some (.inl true))
     (cond ((!z.2.2))
      (some (.inl true))
      ((path_Check (T_Path.mk false z.1 z.2.1)).bind fun v5 =>
      some (.inl (v5 != 0))))))
   (fun (s6:Bool) =>
    cond (s6)
     (some (((T_Path.mk false (⟨#[]⟩:ByteArray) (⟨#[]⟩:ByteArray)),5)))
     (some (((T_Path.mk false z.1 z.2.1),0)))) some)=r→((strings_CutSuffix x.1 (⟨#[62]⟩:ByteArray)).bind fun v3 =>
  (strings_Cut v3.1 (⟨#[64]⟩:ByteArray)).bind fun v4 =>
  bindS (S:=Bool) (A:=(T_Path×Int))
   (cond ((!x.2))
    (some (.inl true))
    (cond ((!v3.2))
     (some (.inl true))
     (cond ((!v4.2.2))
      (some (.inl true))
      ((path_Check (T_Path.mk false v4.1 v4.2.1)).bind fun v5 =>
      some (.inl (v5 != 0))))))
   (fun (s6:Bool) =>
    cond (s6)
     (some (((T_Path.mk false (⟨#[]⟩:ByteArray) (⟨#[]⟩:ByteArray)),5)))
     (some (((T_Path.mk false v4.1 v4.2.1),0)))) some)=r:=by
   intro x hx y hy z hz r hr
   have c1:=cutSuffix_eq x.1 (⟨#[62]⟩:ByteArray) (by omega)
   rw [sb62,← hy] at c1
   have hys:y.1.size≤x.1.size:=by
    rw [hy]; split
    ·rw [bstr_size,List.length_take,sbytes_len]; omega
    ·exact Nat.le_refl _
   have c2:=cut_eq (n:=64) (by omega) y.1 (by omega)
   exact bnd c1 (bnd (c2.trans (by rw [hz]; rfl)) hr)
  rcases mid_cases (sbytes s) with ⟨m,hm,hmid⟩ | hmid
  ·have hh:(sbytes s).head? = some 60:=by rw [hm]; rfl
   rw [if_pos hh,hmid]
   have hbm:byt m:=by
    have:=byt_sbytes s
    rw [hm] at this
    intro x hx
    exact this x (by simp [hx])
   have hbm2:byt (m++[62]):=byt_app hbm (by intro x hx; simp at hx; omega)
   have hd:(sbytes s).drop 1=m++[62]:=by rw [hm]; rfl
   have hx1:bstr ((sbytes s).drop (⟨#[60]⟩:ByteArray).size)=bstr (m++[62]):=by
    show bstr ((sbytes s).drop 1)=_
    rw [hd]
   rw [hx1]
   have hml:m.length+2=s.size:=by rw [size_sb,hm]; simp
   refine tot (bstr (m++[62]),true) (by simp only [bstr_size]; simp; omega) (bstr m,true) ?_ (match idx1 64 m with
     | some e=>(bstr (m.take e),bstr (m.drop (e+1)),true)
     | none=>(bstr m,(⟨#[]⟩:ByteArray),false)) ?_ _ ?_
   ·rw [sbytes_bstr hbm2,if_pos ⟨m,rfl⟩]
    congr 2
    rw [bstr_size]
    show m=(m++[62]).take ((m++[62]).length-1)
    simp
   ·dsimp only
    rw [sbytes_bstr hbm]
   ·simp only [boxL]
    cases hi:idx1 64 m with
    | none=>exact bndL (s:=true) rfl rfl
    | some e =>
     dsimp only
     have hsm:Small ⟨false,bstr (m.take e),bstr (m.drop (e+1))⟩:=⟨by simp only [bstr_size,List.length_take]; omega,by simp only [bstr_size,List.length_drop]; omega⟩
     cases hp:patB ⟨false,bstr (m.take e),bstr (m.drop (e+1))⟩
     ·exact bndL (s:=true) (bnd (check_eq _ hsm) (by rw [hp]; rfl)) rfl
     ·exact bndL (s:=false) (bnd (check_eq _ hsm) (by rw [hp]; rfl)) rfl
  ·rw [hmid]
   by_cases hh:(sbytes s).head? = some 60
   ·rw [if_pos hh]
    have hl:((sbytes s).drop 1).getLast? ≠ some 62:=(midL_none hmid).resolve_left (fun h=>h hh)
    refine tot (bstr ((sbytes s).drop 1),true) (by simp only [bstr_size,List.length_drop,sbytes_len]; omega) (bstr ((sbytes s).drop 1),false) ?_ _ rfl _ ?_
    ·rw [sbytes_bstr (byt_drop (byt_sbytes s) 1),if_neg (fun h=>hl ((suf1 _ _).1 h))]
    ·exact bndL (s:=true) rfl rfl
   ·rw [if_neg hh]
    exact tot (s,false) (Nat.le_refl _) _ rfl _ rfl _ (bndL (s:=true) rfl rfl)
end Go.Abs.Sh
