import Derived.Test.YtjnnkhmhjcjhdaaGreatDoorLineM
import Derived.KernelRfl
namespace Go.Abs.Sh
set_option linter.unusedVariables false
set_option linter.unusedSimpArgs false
set_option maxRecDepth 10000
def idx1 (c:Int):List Int→Option Nat
 | []=>none
 | x::l=>if x=c then some 0 else (idx1 c l).map (· + 1)
theorem idx1_none {c:Int}:∀ {l:List Int},idx1 c l=none↔c ∉ l
 | []=>by simp [idx1]
 | x::l=>by
  have ih:=idx1_none (c:=c) (l:=l)
  unfold idx1
  by_cases h:x=c
  ·simp [h]
  ·rw [if_neg h]
   simp only [Option.map_eq_none_iff,ih,List.mem_cons,not_or]
   exact ⟨fun h2=>⟨fun e=>h e.symm,h2⟩,fun h2=>h2.2⟩
theorem idx1_some {c:Int}:∀ {l:List Int} {e:Nat},idx1 c l=some e→e+1≤l.length∧l=l.take e++c::l.drop (e+1)∧c ∉ l.take e
 | [],e,h=>by simp [idx1] at h
 | x::l,e,h=>by
  unfold idx1 at h
  split at h
  ·rename_i hx
   cases h; subst hx; simp
  ·rename_i hx
   cases hi:idx1 c l with
   | none=>simp [hi] at h
   | some k =>
    simp [hi] at h
    subst h
    obtain ⟨h1,h2,h3⟩:=idx1_some hi
    refine ⟨by simp; omega,?_,?_⟩
    ·simp only [List.take_succ_cons,List.cons_append,List.drop_succ_cons]
     rw [← h2]
    ·simp only [List.take_succ_cons,List.mem_cons,not_or]
     exact ⟨fun e=>hx e.symm,h3⟩
theorem indexByte_eq {n:Nat} (hn:n<256):∀ (l:List UInt8),Lib.indexByte l (UInt8.ofNat n)=match idx1 (n:Int) (l.map fun b=>(b.toNat:Int)) with | none => -1 | some e=>(e:Int)
 | []=>rfl
 | b::l=>by
  have ih:=indexByte_eq hn l
  unfold Lib.indexByte
  rw [List.map_cons]
  unfold idx1
  have hb:(b==UInt8.ofNat n)=decide ((b.toNat:Int)=(n:Int)):=by
   rw [Bool.eq_iff_iff,decide_eq_true_eq,beq_iff_eq]
   constructor
   ·rintro rfl; simp; omega
   ·intro h
    apply UInt8.toNat_inj.1
    simp; omega
  rw [hb]
  by_cases h:(b.toNat:Int)=(n:Int)
  ·rw [if_pos (decide_eq_true h),if_pos h]; rfl
  ·rw [if_neg (by simpa using h),if_neg h,ih]
   cases idx1 (n:Int) (l.map fun b=>(b.toNat:Int)) with
   | none=>rfl
   | some k =>
    have:((k:Int) == -1)=false:=beq_eq_false_iff_ne.2 (by omega)
    simp only [this,Bool.false_eq_true,if_false,Option.map_some]
    rfl
theorem sIndex {n:Nat} (hn:n<256) (s:ByteArray):strings_Index s ⟨#[UInt8.ofNat n]⟩=some (match idx1 (n:Int) (sbytes s) with | none => -1 | some e=>(e:Int)):=by
 unfold strings_Index
 have:=indexByte_eq hn s.data.toList
 simp only [this]
 rfl
theorem wrap_i {n:Int} (h0 : -9223372036854775808≤n) (h1:n<9223372036854775808):some (IntKind.i64.wrap n)=some n:=by rw [wrap_i64 h0 h1]
theorem all_iff_get (l:List Int) (p:Int→Bool):l.all p=true↔∀ i,i<l.length→p (l.getD i 0)=true:=by
 rw [List.all_eq_true]
 constructor
 ·intro h i hi
  rw [List.getD_eq_getElem?_getD,List.getElem?_eq_getElem hi]
  exact h _ (List.getElem_mem hi)
 ·intro h x hx
  obtain ⟨i,hi,rfl⟩:=List.getElem_of_mem hx
  have:=h i hi
  rw [List.getD_eq_getElem?_getD,List.getElem?_eq_getElem hi] at this
  exact this
theorem chrD {s:ByteArray} {i:Nat} (h:i<s.size):chrO s (i:Int)=some ((sbytes s).getD i 0):=by
 rw [chr_of h,List.getD_eq_getElem?_getD,List.getElem?_eq_getElem (by rw [sbytes_len]; exact h)]; rfl
theorem cut_eq {n:Nat} (hn:n<256) (s:ByteArray) (hs:s.size<4611686018427387904):strings_Cut s ⟨#[UInt8.ofNat n]⟩=some (match idx1 (n:Int) (sbytes s) with
  | some e=>(bstr ((sbytes s).take e),bstr ((sbytes s).drop (e+1)),true)
  | none=>(s,(⟨#[]⟩:ByteArray),false)):=by
 unfold strings_Cut internal_stringslite_Cut
 cases hi:idx1 (n:Int) (sbytes s) with
 | none =>
  refine bnd (x:=(s,(⟨#[]⟩:ByteArray),false)) (bnd (sIndex hn s) ?_) rfl
  rw [hi]
  exact cnd_f rfl rfl
 | some e =>
  obtain ⟨h1,_,_⟩:=idx1_some hi
  rw [sbytes_len] at h1
  have e1:subO s 0 (e:Int)=some (bstr ((sbytes s).take e)):=by
   have:=sub_of (s:=s) (a:=0) (b:=e) (by omega) (by omega)
   simpa using this
  have e2:subO s ((e:Int)+1) (s.size:Int)=some (bstr ((sbytes s).drop (e+1))):=by
   have:=sub_of (s:=s) (a:=e+1) (b:=s.size) (by omega) (by omega)
   rw [List.take_of_length_le (by simp [sbytes_len])] at this
   simpa using this
  have w2:some (IntKind.i64.wrap ((e:Int)+((⟨#[UInt8.ofNat n]⟩:ByteArray).size:Int)))=some ((e:Int)+1):=by
   show some (IntKind.i64.wrap ((e:Int)+1))=_
   rw [wrap_i (by omega) (by omega)]
  refine bnd (x:=(bstr ((sbytes s).take e),bstr ((sbytes s).drop (e+1)),true)) (bnd (sIndex hn s) ?_) rfl
  rw [hi]
  exact cnd_t (decide_eq_true (by show (0:Int)≤(e:Int); omega)) (bnd e1 (bnd w2 (bnd e2 rfl)))
def lowB (c:Int):Int:=if 65≤c∧c≤90 then c+32 else c
def lowL (l:List Int):List Int:=l.map lowB
def lowS (s:ByteArray):ByteArray:=bstr (lowL (sbytes s))
theorem low_byte {c:Int} (h:0≤c∧c<256):0≤lowB c∧lowB c<256:=by unfold lowB; split <;> omega
theorem byt_low {l:List Int} (h:byt l):byt (lowL l):=by
 intro x hx
 simp only [lowL,List.mem_map] at hx
 obtain ⟨y,hy,rfl⟩:=hx
 exact low_byte (h y hy)
theorem sbytes_low (s:ByteArray):sbytes (lowS s)=lowL (sbytes s):=sbytes_bstr (byt_low (byt_sbytes s))
theorem set_mid {A:Type} (f:A→A) (l:List A) (i:Nat) (h:i<l.length):((l.take i).map f++l.drop i).set i (f l[i])=(l.take (i+1)).map f++l.drop (i+1):=by
 rw [List.set_append_right _ _ (by simp; omega)]
 have hl:((l.take i).map f).length=i:=by simp; omega
 rw [hl,Nat.sub_self,List.drop_eq_getElem_cons h,List.set_cons_zero,List.take_add_one,List.getElem?_eq_getElem h]
 simp only [Option.toList_some,List.map_append,List.map_cons,List.map_nil,List.append_assoc,List.cons_append,List.nil_append]
theorem get_mid {A:Type} (f:A→A) (l:List A) (i:Nat) (h:i<l.length):getO ((l.take i).map f++l.drop i) i=some l[i]:=by
 unfold getO
 rw [List.getElem?_append_right (by simp; omega)]
 have hl:((l.take i).map f).length=i:=by simp; omega
 rw [hl,Nat.sub_self,List.drop_eq_getElem_cons h]
 rfl
theorem fold_eq (s:ByteArray) (hs:s.size<4611686018427387904):path_Fold s=some (lowS s):=by
 unfold path_Fold
 refine bnd rfl ?_
 have hlen:(sbytes s).length=s.size:=sbytes_len s
 refine bndL (s:=lowL (sbytes s)) ?_ rfl
 refine loop_from (fun i=>(((sbytes s).take i).map lowB++(sbytes s).drop i,(i:Int))) s.size BIG (by simp) (by unfold BIG; omega) (fun i hi => ?_) ?_
 ·have hi':i<(sbytes s).length:=by omega
  have hb:=byt_sbytes s _ (List.getElem_mem hi')
  have hll:(((sbytes s).take i).map lowB++(sbytes s).drop i).length=(sbytes s).length:=by simp; omega
  have gt:=get_mid lowB (sbytes s) i hi'
  have st:=set_mid lowB (sbytes s) i hi'
  have ix:ixO (i:Int) (((sbytes s).take i).map lowB++(sbytes s).drop i).length=some i:=ixO_of (by omega)
  have w:some (IntKind.i64.wrap ((i:Int)+1))=some ((i+1:Nat):Int):=by rw [wrap_succ (by omega)]
  refine cnd_t (decide_eq_true (by omega)) ?_
  by_cases h1:65≤(sbytes s)[i]∧(sbytes s)[i]≤90
  ·have e:lowB (sbytes s)[i]=(sbytes s)[i]+32:=by unfold lowB; rw [if_pos h1]
   rw [e] at st
   refine bndL (s:=((sbytes s).take (i+1)).map lowB++(sbytes s).drop (i+1)) (bnd ix (bnd gt (bndL (s:=true) (cnd_t (decide_eq_true h1.1) (by rw [decide_eq_true h1.2])) (cnd_t rfl (bnd (by rw [u8_wrap (by omega) (by omega)]) (bnd ix (bnd (by rw [st]) rfl))))))) (bnd w rfl)
  ·have e:lowB (sbytes s)[i]=(sbytes s)[i]:=by unfold lowB; rw [if_neg h1]
   have st2:((sbytes s).take i).map lowB++(sbytes s).drop i=((sbytes s).take (i+1)).map lowB++(sbytes s).drop (i+1):=by
    rw [List.take_add_one,List.getElem?_eq_getElem hi',List.drop_eq_getElem_cons hi']
    simp only [Option.toList_some,List.map_append,List.map_cons,List.map_nil,List.append_assoc,List.cons_append,List.nil_append,e]
   refine bndL (s:=((sbytes s).take (i+1)).map lowB++(sbytes s).drop (i+1)) (bnd ix (bnd gt (bndL (s:=false) ?_ (cnd_f rfl (by rw [st2]))))) (bnd w rfl)
   by_cases h2:65≤(sbytes s)[i]
   ·exact cnd_t (decide_eq_true h2) (by rw [decide_eq_false fun h3=>h1 ⟨h2,h3⟩])
   ·exact cnd_f (decide_eq_false h2) rfl
 ·refine cnd_f (decide_eq_false (by omega)) ?_
  rw [← hlen]
  simp [lowL]
theorem byt_nil:byt []:=fun x hx=>by cases hx
theorem u64_n (z:Int) (n:Nat) (h0:0<n) (hn:n<1000000):IntKind.u64.wrap (n:Int)=(n:Int)∧∃ q:Nat,q<n∧remO (IntKind.u64.wrap z) (n:Int)=some (q:Int):=by
 have h:∀ z:Int,IntKind.u64.wrap z=((z % 18446744073709551616).toNat:Int):=by
  intro z
  simp only [IntKind.wrap,IntKind.bits,IntKind.signed]
  have e:(2:Int) ^ 64=18446744073709551616:=by decide
  simp only [e,Bool.false_and,Bool.false_eq_true,if_false]
  omega
 refine ⟨by rw [h]; omega,?_⟩
 rw [h]
 exact ⟨_,Nat.mod_lt _ h0,rem_nat _ n h0⟩
/-! What a line is,over its bytes. -/
def prB (x:Int):Bool:=decide (32≤x)&&decide (x≤126)
def cutW (c:Int) (l:List Int):List Int×List Int×Bool:=match idx1 c l with
 | none=>(l,[],false)
 | some e=>(l.take e,l.drop (e+1),true)
def kindW (w:List Int):Int :=
 if w=[101,104,108,111]∨w=[104,101,108,111] then 1
 else if w=[109,97,105,108] then 2
 else if w=[114,99,112,116] then 3
 else if w=[100,97,116,97] then 4
 else if w=[114,115,101,116] then 5
 else if w=[113,117,105,116] then 8
 else if w=[110,111,111,112] then 7
 else if w=[118,114,102,121] then 6
 else if w=[101,116,114,110] then 9
 else if w=[97,117,116,104] then 10
 else if w=[97,116,114,110] then 11
 else 0
def kindL (l:List Int):Int:=kindW (lowL (cutW 32 l).1)
theorem cutW_cases (c:Int) (l:List Int):(∃ a b,l=a++c::b∧c ∉ a∧cutW c l=(a,b,true))∨(c ∉ l∧cutW c l=(l,[],false)):=by
 cases h:idx1 c l with
 | none=>exact .inr ⟨idx1_none.1 h,by unfold cutW; rw [h]⟩
 | some e =>
  have h2:=idx1_some h
  exact .inl ⟨l.take e,l.drop (e+1),h2.2.1,h2.2.2,by unfold cutW; rw [h]⟩
/-! What the program says of a line is what is said over its bytes. -/
theorem print_eq (l:List Int) (hb:byt l) (hl:l.length≤10000):verb_printable (bstr l)=some (l.all prB):=by
 unfold verb_printable
 have hs:(bstr l).size=l.length:=bstr_size l
 rw [hs]
 have hloop:=loop_all (R:=Bool) (f:=fun (s17:Int) =>
   cond ((decide (s17<(l.length:Int))))
    (bindS (S:=Bool) (A:=((Int)⊕((Unit)⊕Bool)))
     ((chrO (bstr l) s17).bind fun v2 =>
     cond ((decide (v2<32)))
      (some (.inl true))
      ((chrO (bstr l) s17).bind fun v3 =>
      some (.inl ((decide (126<v3))))))
     (fun (s31:Bool) =>
      cond (s31)
       (some (.inr (.inr (false))))
       ((some (IntKind.i64.wrap (s17+1))).bind fun v9 =>
       some (.inl v9))) some)
    (some (.inr (.inl ())))) (fun i=>prB (l.getD i 0)) l.length false (fuel:=BIG) (by simp only [BIG]; omega)
  (fun i hi hp=>by
   have hc:chrO (bstr l) (i:Int)=some (l.getD i 0):=by
    rw [chrD (by rw [hs]; exact hi),sbytes_bstr hb]
   simp only [prB,Bool.and_eq_true,decide_eq_true_eq] at hp
   refine cnd_t (decide_eq_true (by omega)) (bndL (s:=false) (bnd hc (cnd_f (decide_eq_false (by omega)) (bnd hc (by rw [decide_eq_false (by omega)])))) (cnd_f rfl (bnd (some_wrap (by omega) (by omega)) rfl))))
  (fun i hi hp=>by
   have hc:chrO (bstr l) (i:Int)=some (l.getD i 0):=by
    rw [chrD (by rw [hs]; exact hi),sbytes_bstr hb]
   simp only [prB,Bool.and_eq_false_iff,decide_eq_false_iff_not] at hp
   refine cnd_t (decide_eq_true (by omega)) (bndL (s:=true) (bnd hc ?_) rfl)
   by_cases h:l.getD i 0<32
   ·exact cnd_t (decide_eq_true h) rfl
   ·exact cnd_f (decide_eq_false h) (bnd hc (by rw [decide_eq_true (by omega)])))
  (cnd_f (decide_eq_false (by omega)) rfl)
 by_cases h:∀ i,i<l.length→prB (l.getD i 0)=true
 ·rw [if_pos h] at hloop
  rw [(all_iff_get l prB).2 h]
  exact bndL hloop rfl
 ·rw [if_neg h] at hloop
  have ha:l.all prB=false:=by
   cases e:l.all prB with
   | false=>rfl
   | true=>exact absurd ((all_iff_get l prB).1 e) h
  rw [ha]
  exact bndR hloop rfl
theorem eqL (s t:ByteArray):(s.toList==t.toList)=decide (sbytes s=sbytes t):=by
 rw [toList_beq]
 exact decide_eq_decide.2 str_eq_iff
theorem cutW_eq {n:Nat} (hn:n<256) (s:ByteArray) (hs:s.size<4611686018427387904):strings_Cut s ⟨#[UInt8.ofNat n]⟩=some (bstr (cutW (n:Int) (sbytes s)).1,bstr (cutW (n:Int) (sbytes s)).2.1,(cutW (n:Int) (sbytes s)).2.2):=by
 rw [cut_eq hn s hs]
 unfold cutW
 cases h:idx1 (n:Int) (sbytes s) with
 | none=>simp only [bstr_sbytes]; rfl
 | some e=>rfl
theorem cnd_ite {R:Type} {p:Prop} [Decidable p] {a b:R} {y:Option R} (h:y=some b):cond (decide p) (some a) y=some (if p then a else b):=by
 by_cases hp:p
 ·rw [decide_eq_true hp,if_pos hp]; rfl
 ·rw [decide_eq_false hp,if_neg hp]; exact h
theorem cutW_len (c:Int) (l:List Int):(cutW c l).1.length≤l.length∧(cutW c l).2.1.length≤l.length:=by
 rcases cutW_cases c l with ⟨a,b,e,_,h2⟩ | ⟨_,h2⟩ <;> rw [h2]
 ·rw [e]; simp; omega
 ·simp
theorem byt_cut (c:Int) {l:List Int} (h:byt l):byt (cutW c l).1∧byt (cutW c l).2.1:=by
 unfold cutW
 cases idx1 c l with
 | none=>exact ⟨h,byt_nil⟩
 | some e=>exact ⟨byt_take h _,byt_drop h _⟩
theorem kindOf_eq (s:ByteArray) (hs:s.size<4611686018427387904):verb_kindOf s=some (kindL (sbytes s)):=by
 unfold verb_kindOf kindL kindW
 have hc:=byt_cut 32 (byt_sbytes s)
 have hl:=cutW_len 32 (sbytes s)
 rw [sbytes_len] at hl
 refine bnd (cutW_eq (n:=32) (by decide) s hs) (bnd (fold_eq _ (by rw [bstr_size]; exact Nat.lt_of_le_of_lt hl.1 hs)) ?_)
 have hw:sbytes (lowS (bstr (cutW 32 (sbytes s)).1))=lowL (cutW 32 (sbytes s)).1:=by rw [sbytes_low,sbytes_bstr hc.1]
 generalize lowL (cutW 32 (sbytes s)).1=w at hw
 generalize lowS (bstr (cutW 32 (sbytes s)).1)=v at hw
 have e:∀ t:ByteArray,(v.toList==t.toList)=decide (w=sbytes t):=fun t=>by rw [eqL,hw]
 simp only [e]
 have hb:(cond (decide (w=sbytes (⟨#[101,104,108,111]⟩:ByteArray))) (some (.inl (decide (w=sbytes (⟨#[101,104,108,111]⟩:ByteArray))))) (some (.inl (decide (w=sbytes (⟨#[104,101,108,111]⟩:ByteArray))))):Option (Bool⊕Int))=some (.inl (decide (w=[101,104,108,111]∨w=[104,101,108,111]))):=by
  have e1:sbytes (⟨#[101,104,108,111]⟩:ByteArray)=[101,104,108,111]:=rfl
  have e2:sbytes (⟨#[104,101,108,111]⟩:ByteArray)=[104,101,108,111]:=rfl
  rw [e1,e2]
  rw [Bool.decide_or]
  cases decide (w=[101,104,108,111]) <;> rfl
 refine bndL hb ?_
 exact cnd_ite (cnd_ite (cnd_ite (cnd_ite (cnd_ite (cnd_ite (cnd_ite (cnd_ite (cnd_ite (cnd_ite (cnd_ite rfl))))))))))
end Go.Abs.Sh
