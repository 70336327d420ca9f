import Derived.Test.YtofbofdggabfiaaGreatDoorPatC
import Derived.Test.YtofbofdggabfiaaGreatDoorPatG
import Derived.Test.YtofbofdggabfiaaGreatDoorLineM
import Derived.Test.YtofbofdggabfiaaGreatDoorKeepM
import Derived.KernelRfl
namespace Go.Abs.Sh
set_option linter.unusedVariables false
set_option linter.unusedSimpArgs false
set_option maxRecDepth 10000
def folL {X S O:Type} (step:X→S→Option (S⊕O)):List X→S→Option (S⊕O)
 | [],s=>some (.inl s)
 | x::l,s=>match step x s with
  | none=>none
  | some (.inl s')=>folL step l s'
  | some (.inr o)=>some (.inr o)
inductive Lns:List Int→List (List Int)→List Int→Prop
 | nil {b:List Int} (h:idx2 b=none):Lns b [] b
 | cons {b:List Int} {e:Nat} {ls:List (List Int)} {r:List Int} (h:idx2 b=some e) (t:Lns (b.drop (e+2)) ls r):Lns b (b.take e::ls) r
theorem wrap_j {n:Int} (h0 : -9223372036854775808≤n) (h1:n<9223372036854775808):some (IntKind.i64.wrap n)=some n:=by rw [wrap_i64 h0 h1]
theorem cut_none {b:List Int} (hb:byt b) (hl:b.length<4294967281) (h:idx2 b=none):bytes_Cut_sh b [13,10]=some (b,[],false):=by
 unfold bytes_Cut_sh
 refine bnd (bytesIndex2 hb hl) ?_
 rw [h]
 rfl
theorem cut_some {b:List Int} (hb:byt b) (hl:b.length<4294967281) {e:Nat} (h:idx2 b=some e):bytes_Cut_sh b [13,10]=some (b.take e,b.drop (e+2),true):=by
 have h1:=(idx2_some h).1
 unfold bytes_Cut_sh
 refine bnd (bytesIndex2 hb hl) ?_
 rw [h]
 refine cnd_t (decide_eq_true (by show (0:Int)≤(e:Int); omega)) ?_
 have e1:sliO b 0 (e:Int)=some (b.take e):=by
  have:=sli_nat b (a:=0) (b:=e) (by omega) (by omega)
  simpa using this
 refine bnd e1 ?_
 refine bnd (x:=((e+2:Nat):Int)) (by
  show some (IntKind.i64.wrap ((e:Int)+2))=_
  rw [wrap_j (by omega) (by omega)]; simp) ?_
 refine bnd (x:=b.drop (e+2)) (by
  rw [sli_nat b (by omega) (by omega),List.take_of_length_le (by simp)]) rfl
theorem lines_range {S O:Type} (step:List Int→S→Option (S⊕O)) {b:List Int} {ls:List (List Int)} {rest:List Int} (H:Lns b ls rest) (hb:byt b) (hl:b.length<4294967281) (st:S) (r:S⊕O) (hr:folL step ls st=some r) :
  rangeS (S:=S) (O:=O) (fun Y st=>dots_lines_1 Y b st) step st=some r:=by
 unfold rangeS dots_lines_1
 have key:∀ (b:List Int) (ls:List (List Int)) (rest:List Int),Lns b ls rest→byt b→b.length<4294967281→∀ (fuel:Nat) (st:S),b.length<fuel→folL step ls st=some r →
   bindS (S:=(Unit)) (A:=S⊕O)
    (loopF (S:=((List Int)×(S⊕O))) (O:=(Unit)⊕(S⊕O)) (fun ((s17,s18):(List Int)×(S⊕O)) =>
     (bytes_Cut_sh s17 [13,10]).bind fun v1 =>
     bindS (S:=(S⊕O)×Bool) (A:=(((List Int)×(S⊕O))⊕((Unit)⊕(S⊕O))))
      (cond ((!v1.2.2))
       (some (.inl (s18,true)))
       ((rangeY step v1.1 s18).bind fun v2 =>
       some (.inl ((v2.1,(!v2.2))))))
      (fun ((s31,s32):(S⊕O)×Bool) =>
       cond (s32)
        (some (.inr (.inr (s31))))
        (some (.inl (v1.2.1,s31)))) some)
     fuel (b,.inl st))
    (fun (():Unit) =>
     none) some=some r:=by
  intro b ls rest H
  induction H with
  | nil h =>
   intro hb hl fuel st hf hr
   obtain ⟨f,rfl⟩:∃ f,fuel=f+1:=⟨fuel-1,by omega⟩
   rw [loop_exit (o := .inr (.inl st)) (bnd (cut_none hb hl h) rfl)]
   exact hr
  | cons h t ih =>
   rename_i b e ls r'
   intro hb hl fuel st hf hr
   obtain ⟨f,rfl⟩:∃ f,fuel=f+1:=⟨fuel-1,by omega⟩
   have h1:=(idx2_some h).1
   simp only [folL] at hr
   cases hst:step (b.take e) st with
   | none=>rw [hst] at hr; cases hr
   | some u =>
    rw [hst] at hr
    cases u with
    | inl s' =>
     rw [loop_next (s':=(b.drop (e+2),.inl s')) (bnd (cut_some hb hl h) (bndL (s:=((Sum.inl s':S⊕O),false)) (cnd_f rfl (bnd (x:=((Sum.inl s':S⊕O),true)) (by simp [rangeY,hst]) rfl)) rfl))]
     exact ih (byt_drop hb _) (by rw [List.length_drop]; omega) f s' (by rw [List.length_drop]; omega) hr
    | inr o =>
     rw [loop_exit (o := .inr (.inr o)) (bnd (cut_some hb hl h) (bndL (s:=((Sum.inr o:S⊕O),true)) (cnd_f rfl (bnd (x:=((Sum.inr o:S⊕O),false)) (by simp [rangeY,hst]) rfl)) rfl))]
     exact hr
 exact key b ls rest H hb hl BIG st (by unfold BIG; omega) hr
theorem lns_ex:∀ (n:Nat) (b:List Int),b.length≤n→∃ ls r,Lns b ls r
 | n,b,hn=>by
  cases h:idx2 b with
  | none=>exact ⟨_,_,.nil h⟩
  | some e =>
   have h1:=(idx2_some h).1
   cases n with
   | zero=>omega
   | succ n =>
    obtain ⟨ls,r,H⟩:=lns_ex n (b.drop (e+2)) (by rw [List.length_drop]; omega)
    exact ⟨_,_,.cons h H⟩
def jn:List (List Int)→List Int
 | []=>[]
 | l::ls=>l++13::10::jn ls
theorem jn_app:∀ (a b:List (List Int)),jn (a++b)=jn a++jn b
 | [],b=>rfl
 | x::a,b=>by simp [jn,jn_app a b]
theorem lns_join {b:List Int} {ls:List (List Int)} {r:List Int} (H:Lns b ls r):b=jn ls++r:=by
 induction H with
 | nil h=>rfl
 | cons h t ih =>
  have h2:=(idx2_some h).2
  conv=>lhs; rw [h2]
  simp only [jn,List.append_assoc,List.cons_append]
  rw [← ih]
def cln (l:List Int):Prop:=∀ x∈l,x≠13∧x≠10
theorem lns_app {ls:List (List Int)} {t:List Int} {ms:List (List Int)} {r:List Int} (h:∀ l∈ls,cln l) (H:Lns t ms r):Lns (jn ls++t) (ls++ms) r:=by
 induction ls with
 | nil=>exact H
 | cons l ls ih =>
  have e:jn (l::ls)++t=l++13::10::(jn ls++t):=by simp [jn]
  have hi:=idx2_line (line:=l) (rest:=jn ls++t) (fun x hx=>(h l (by simp) x hx).1)
  have:=Lns.cons (b:=l++13::10::(jn ls++t)) hi (ls:=ls++ms) (r:=r) (by
   have e2:(l++13::10::(jn ls++t)).drop (l.length+2)=jn ls++t:=by
    rw [List.drop_append]; simp
   rw [e2]
   exact ih fun x hx=>h x (by simp [hx]))
  rw [e]
  have e3:(l++13::10::(jn ls++t)).take l.length=l:=by simp
  rw [e3] at this
  exact this
theorem lns_nil:Lns [] [] [] := .nil rfl
theorem lns_jn {ls:List (List Int)} (h:∀ l∈ls,cln l):Lns (jn ls) ls []:=by
 have:=lns_app h lns_nil
 simpa using this
def tot:List (List Int)→Nat
 | []=>0
 | l::ls=>l.length+2+tot ls
theorem jn_len:∀ ls,(jn ls).length=tot ls
 | []=>rfl
 | l::ls=>by simp [jn,tot,jn_len ls]; omega
theorem byt_line {b:List Int} {ls:List (List Int)} {r:List Int} (H:Lns b ls r) (hb:byt b):∀ l∈ls,byt l:=by
 induction H with
 | nil h=>intro l hl; simp at hl
 | cons h t ih =>
  intro l hl
  rcases List.mem_cons.1 hl with rfl | hl
  ·exact byt_take hb _
  ·exact ih (byt_drop hb _) l hl
theorem jn_byt {ls:List (List Int)} (h:∀ l∈ls,byt l):byt (jn ls):=by
 induction ls with
 | nil=>intro l hl; simp [jn] at hl
 | cons m ls ih =>
  intro x hx
  simp only [jn,List.mem_append,List.mem_cons] at hx
  rcases hx with hx | rfl | rfl | hx
  ·exact h m (by simp) x hx
  ·omega
  ·omega
  ·exact ih (fun l hl=>h l (by simp [hl])) x hx
def lowB (c:Int):Int:=if 65≤c∧c≤90 then c+32 else c
def lowL (l:List Int):List Int:=l.map lowB
def lowS (s:ByteArray):ByteArray:=bstr (lowL (sbytes s))
theorem low_byte {c:Int} (h:0≤c∧c<256):0≤lowB c∧lowB c<256:=by unfold lowB; split <;> omega
theorem byt_low {l:List Int} (h:byt l):byt (lowL l):=by
 intro x hx
 simp only [lowL,List.mem_map] at hx
 obtain ⟨y,hy,rfl⟩:=hx
 exact low_byte (h y hy)
theorem sbytes_low (s:ByteArray):sbytes (lowS s)=lowL (sbytes s):=sbytes_bstr (byt_low (byt_sbytes s))
def txtL (p:T_Path):List Int:=cond p.Null [60,62] (60::(sbytes p.Local++64::(sbytes p.Domain++[62])))
theorem byt_cons {c:Int} {l:List Int} (h:0≤c∧c<256) (hl:byt l):byt (c::l):=by
 intro x hx
 simp only [List.mem_cons] at hx
 rcases hx with rfl | hx
 ·exact h
 ·exact hl x hx
theorem byt_nil:byt []:=fun x hx=>by cases hx
theorem byt_txt (p:T_Path):byt (txtL p):=by
 unfold txtL
 cases p.Null
 ·exact byt_cons (by omega) (byt_app (byt_sbytes _) (byt_cons (by omega) (byt_app (byt_sbytes _) (byt_cons (by omega) byt_nil))))
 ·exact byt_cons (by omega) (byt_cons (by omega) byt_nil)
theorem catL {s t:ByteArray} {l m:List Int} (hl:sbytes s=l) (hm:sbytes t=m) (h:l.length+m.length≤9223372036854775807):catO s t=some (bstr (l++m)):=by
 subst hl hm
 rw [sbytes_len,sbytes_len] at h
 exact cat_of h
theorem cats (p:T_Path) (h:Small p) {R:Type} (f:ByteArray→Option R) (r:Option R) (hr:f (bstr (60::(sbytes p.Local++64::(sbytes p.Domain++[62]))))=r) :
  ((catO (⟨#[60]⟩:ByteArray) p.Local).bind fun v4 =>
   (catO v4 (⟨#[64]⟩:ByteArray)).bind fun v5 =>
   (catO v5 p.Domain).bind fun v6 =>
   (catO v6 (⟨#[62]⟩:ByteArray)).bind fun v7=>f v7)=r:=by
 have hl:=h.l; have hd:=h.d
 have bl:=byt_sbytes p.Local; have bd:=byt_sbytes p.Domain
 have b60:byt [60]:=byt_cons (by omega) byt_nil
 have b64:byt [64]:=byt_cons (by omega) byt_nil
 have k1:=catL (s:=⟨#[60]⟩) (t:=p.Local) sb60 rfl (by simp [sbytes_len]; omega)
 have k2:=catL (s:=bstr ([60]++sbytes p.Local)) (t:=⟨#[64]⟩) (m:=[64]) (sbytes_bstr (byt_app b60 bl)) rfl (by simp [sbytes_len]; omega)
 have k3:=catL (s:=bstr ([60]++sbytes p.Local++[64])) (t:=p.Domain) (sbytes_bstr (byt_app (byt_app b60 bl) b64)) rfl (by simp [sbytes_len]; omega)
 have k4:=catL (s:=bstr ([60]++sbytes p.Local++[64]++sbytes p.Domain)) (t:=⟨#[62]⟩) (m:=[62]) (sbytes_bstr (byt_app (byt_app (byt_app b60 bl) b64) bd)) rfl (by simp [sbytes_len]; omega)
 refine bnd k1 (bnd k2 (bnd k3 (bnd k4 ?_)))
 rw [← hr]
 congr 2
 simp
theorem text_eq (p:T_Path) (h:Small p):path_Text p=some (cond (patB p) (bstr (txtL p),0) (e0,5)):=by
 unfold path_Text
 refine bnd (check_eq p h) ?_
 cases hp:patB p
 ·exact cnd_t rfl rfl
 ·refine cnd_f rfl ?_
  unfold txtL
  cases hn:p.Null
  ·exact cnd_f rfl (cats p h _ _ rfl)
  ·exact cnd_t rfl rfl
theorem rsign_all:(List.range 256).all (fun k=>decide (wherryref11_sign ((k:Nat):Int)=some (atB ((k:Nat):Int))))=true:=by kernel_rfl
theorem rsign {c:Int} (hc:0≤c∧c<256):wherryref11_sign c=some (atB c):=by
 simpa using of_byte (fun c=>decide (wherryref11_sign c=some (atB c))) rsign_all hc
def qLoc (p x:Int):Bool:=if x=46 then decide (p≠46) else atB x
def locG (p:Int) (l:List Int):Bool:=chkR qLoc p l&&decide ((p::l).getLast? ≠ some 46)
theorem locG_spl:∀ (l:List Int) (p:Int),locG p l=match spl 46 l with
  | []=>true
  | a::ps=>(if p=46 then atmB a else a.all atB)&&ps.all atmB
 | [],p=>by
  unfold locG
  simp only [chkR,spl,Bool.true_and,List.getLast?_singleton,List.all_nil,Bool.and_true]
  by_cases h:p=46
  ·simp [h,atmB]
  ·simp [h]
 | x::r,p=>by
  have ih:=locG_spl r x
  have hne:=spl_ne 46 r
  unfold spl
  have e:locG p (x::r)=(qLoc p x&&locG x r):=by
   unfold locG
   simp only [chkR,List.getLast?_cons_cons,Bool.and_assoc]
  rw [e,ih]
  cases hs:spl 46 r with
  | nil=>exact absurd hs hne
  | cons a ps =>
   by_cases hx:x=46
   ·subst hx
    simp only [qLoc,if_true,List.all_cons]
    by_cases hp:p=46
    ·subst hp; simp [atmB]
    ·simp [hp]
   ·simp only [qLoc,if_neg hx,List.all_cons]
    by_cases hp:p=46
    ·subst hp; simp [atmB,Bool.and_assoc]
    ·simp [hp,Bool.and_assoc]
theorem loc_chk (l:List Int) (hne:l≠[]) (h46:l.head? ≠ some 46) (hl:l.getLast? ≠ some 46):(spl 46 l).all atmB=chkR qLoc 0 l:=by
 have h:=locG_spl l 46
 have e1:locG 46 l=chkR qLoc 0 l:=by
  cases l with
  | nil=>exact absurd rfl hne
  | cons x r =>
   have hx:x≠46:=by simpa using h46
   unfold locG
   simp only [chkR,List.getLast?_cons_cons,qLoc,if_neg hx]
   rw [decide_eq_true hl,Bool.and_true]
 rw [← e1,h]
 cases hs:spl 46 l with
 | nil=>exact absurd hs (spl_ne 46 l)
 | cons a ps=>simp
theorem loc_first {l:List Int} (h:l.head? = some 46):(spl 46 l).all atmB=false:=by
 cases l with
 | nil=>simp at h
 | cons x r=>simp at h; subst h; simp [spl,atmB]
theorem loc_last {l:List Int} (h:l.getLast? = some 46):(spl 46 l).all atmB=false:=by
 have h2:=locG_spl l 46
 have e:(spl 46 l).all atmB=locG 46 l:=by
  rw [h2]
  cases hs:spl 46 l with
  | nil=>exact absurd hs (spl_ne 46 l)
  | cons a ps=>simp
 rw [e]
 unfold locG
 cases l with
 | nil=>simp at h
 | cons x r=>rw [List.getLast?_cons_cons,h]; simp
theorem rloc_eq (s:ByteArray):wherryref11_Local s=some (locB (sbytes s)):=by
 unfold wherryref11_Local locB
 rw [sbytes_len]
 by_cases h:1≤s.size∧s.size≤64
 ·have hn:(decide ((1:Int)≤(s.size:Int))&&decide ((s.size:Int)≤64))=true:=by rw [decide_eq_true (by omega),decide_eq_true (by omega)]; rfl
  have hin:=in_eq (s.size:Int) 1 64
  rw [hn] at hin
  have hne:sbytes s≠[]:=by intro e; have:=sbytes_len s; rw [e] at this; simp at this; omega
  have hh:=head_getD hne
  have hg:=last_getD hne
  rw [sbytes_len] at hg
  have c0:=chrD (s:=s) (i:=0) (by omega)
  have c1:=chrD (s:=s) (i:=s.size-1) (by omega)
  have e1:((s.size-1:Nat):Int)=(s.size:Int)-1:=by omega
  rw [e1] at c1
  rw [decide_eq_true h.2,Bool.true_and]
  by_cases h0:(sbytes s).getD 0 0=46
  ·rw [h0] at hh c0
   rw [loc_first hh]
   exact bndL (s:=true) (bnd hin (cnd_f rfl (bnd c0 (cnd_t rfl rfl)))) rfl
  ·by_cases hl:(sbytes s).getD (s.size-1) 0=46
   ·rw [hl] at hg c1
    rw [loc_last hg]
    exact bndL (s:=true) (bnd hin (cnd_f rfl (bnd c0 (cnd_f (by simpa using h0) (bnd (wrap_i (by omega) (by omega)) (bnd c1 rfl)))))) rfl
   ·rw [loc_chk _ hne (by rw [hh]; simpa using h0) (by rw [hg]; simpa using hl)]
    refine bndL (s:=false) (bnd hin (cnd_f rfl (bnd c0 (cnd_f (by simpa using h0) (bnd (wrap_i (by omega) (by omega)) (bnd c1 (by rw [show ((sbytes s).getD (s.size-1) 0==46)=false by simpa using hl])))))) ) (cnd_f rfl ?_)
    let q:Nat→Bool:=fun i=>qLoc ((0::sbytes s).getD i 0) ((sbytes s).getD i 0)
    have hl2:=fun (g:Int→Option (Int⊕(Unit⊕Bool)))=>loop_all (R:=Bool) (f:=g) q s.size false (fuel:=BIG) (by unfold BIG; omega)
    have hiff:=chkR_iff qLoc (sbytes s) 0
    rw [sbytes_len] at hiff
    have prev:∀ i,i<s.size→(sbytes s).getD i 0=46→chrO s ((i:Int)-1)=some ((0::sbytes s).getD i 0):=by
     intro i hi h46
     cases i with
     | zero=>exact absurd h46 h0
     | succ i =>
      have:=chrD (s:=s) (i:=i) (by omega)
      have e:((i+1:Nat):Int)-1=(i:Int):=by omega
      rw [e,this]; rfl
    rw [show chkR qLoc 0 (sbytes s)=decide (∀ i,i<s.size→q i=true) by rw [Bool.eq_iff_iff,decide_eq_true_eq]; exact hiff.symm]
    refine (congrArg (fun m=>bindS m _ _) (hl2 _ ?_ ?_ ?_)).trans ?_
    ·intro i hi hq
     have w:some (IntKind.i64.wrap ((i:Int)-1))=some ((i:Int)-1):=wrap_i (by omega) (by omega)
     have w2:some (IntKind.i64.wrap ((i:Int)+1))=some ((i+1:Nat):Int):=by rw [wrap_succ (by omega)]
     refine cnd_t (decide_eq_true (by omega)) (bndL (s:=false) (bnd (chrD hi) ?_) (cnd_f rfl (bnd w2 rfl)))
     by_cases h46:(sbytes s).getD i 0=46
     ·refine cnd_t (by rw [h46]; rfl) (bnd w (bnd (prev i hi h46) ?_))
      have hp:(0::sbytes s).getD i 0≠46:=by
       simp only [q,qLoc,if_pos h46,decide_eq_true_eq] at hq
       exact hq
      exact cnd_f (by simpa using hp) (bnd (chrD hi) (cnd_f (by rw [h46]; rfl) rfl))
     ·refine cnd_f (by simpa using h46) (bnd (chrD hi) (cnd_t (by simpa using h46) (bnd (chrD hi) (bnd (rsign (getD_byte s hi)) ?_))))
      simp only [q,qLoc,if_neg h46] at hq
      rw [hq]; rfl
    ·intro i hi hq
     have w:some (IntKind.i64.wrap ((i:Int)-1))=some ((i:Int)-1):=wrap_i (by omega) (by omega)
     refine cnd_t (decide_eq_true (by omega)) (bndL (s:=true) (bnd (chrD hi) ?_) (cnd_t rfl rfl))
     by_cases h46:(sbytes s).getD i 0=46
     ·refine cnd_t (by rw [h46]; rfl) (bnd w (bnd (prev i hi h46) ?_))
      have hp:(0::sbytes s).getD i 0=46:=by
       simp only [q,qLoc,if_pos h46,decide_eq_false_iff_not,ne_eq] at hq
       exact Decidable.not_not.1 hq
      exact cnd_t (by rw [hp]; rfl) rfl
     ·refine cnd_f (by simpa using h46) (bnd (chrD hi) (cnd_t (by simpa using h46) (bnd (chrD hi) (bnd (rsign (getD_byte s hi)) ?_))))
      simp only [q,qLoc,if_neg h46] at hq
      rw [hq]; rfl
    ·exact cnd_f (decide_eq_false (by omega)) rfl
    ·by_cases hall:∀ i,i<s.size→q i=true
     ·rw [if_pos hall,decide_eq_true hall]; rfl
     ·rw [if_neg hall,decide_eq_false hall]; rfl
 ·have hn:(decide ((1:Int)≤(s.size:Int))&&decide ((s.size:Int)≤64))=false:=by
   by_cases h1:1≤s.size
   ·rw [decide_eq_true (by omega),decide_eq_false (by omega)]; rfl
   ·rw [decide_eq_false (by omega)]; rfl
  have hin:=in_eq (s.size:Int) 1 64
  rw [hn] at hin
  refine bndL (s:=true) (bnd hin rfl) (cnd_t rfl ?_)
  by_cases h1:1≤s.size
  ·rw [decide_eq_false (by omega)]; rfl
  ·have:sbytes s=[]:=List.eq_nil_of_length_eq_zero (by rw [sbytes_len]; omega)
   rw [this]
   simp [spl,atmB]
theorem rpath_eq (p:T_Path):wherryref11_Path p=some (patB p):=by
 unfold wherryref11_Path patB
 rw [isE,isE]
 cases hn:p.Null
 ·refine cnd_f rfl (bndL (s:=locB (sbytes p.Local)&&domB (sbytes p.Domain)) (bnd (rloc_eq p.Local) ?_) rfl)
  cases locB (sbytes p.Local)
  ·rfl
  ·exact cnd_t rfl (bnd (rdom_eq p.Domain) rfl)
 ·refine cnd_t rfl (bndL (s:=(sbytes p.Local).isEmpty&&(sbytes p.Domain).isEmpty) ?_ rfl)
  cases (sbytes p.Local).isEmpty <;> rfl
theorem loop_find {R:Type} {f:Int→Option (Int⊕(Unit⊕R))} (c:Int) (l:List Int) (g:Nat→R) {fuel:Nat} (hf:l.length<fuel)
  (hgo:∀ i,i<l.length→l.getD i 0≠c→f (i:Int)=some (.inl ((i+1:Nat):Int))) (hno:∀ i,i<l.length→l.getD i 0=c→f (i:Int)=some (.inr (.inr (g i)))) (hend:f (l.length:Int)=some (.inr (.inl ()))) :
  loopF f fuel 0=some (match idx1 c l with | none => .inl () | some e => .inr (g e)):=by
 cases hi:idx1 c l with
 | none =>
  have h:=idx1_none.1 hi
  refine loop_from (fun i=>(i:Int)) l.length fuel rfl hf (fun i hi=>hgo i hi ?_) hend
  intro e
  apply h
  rw [← e,List.getD_eq_getElem?_getD,List.getElem?_eq_getElem hi]
  exact List.getElem_mem hi
 | some e =>
  obtain ⟨h1,h2,h3⟩:=idx1_some hi
  refine loop_from (fun i=>(i:Int)) e fuel rfl (by omega) (fun i hi=>hgo i (by omega) ?_) (hno e (by omega) ?_)
  ·intro he
   apply h3
   rw [← he,List.getD_eq_getElem?_getD,List.getElem?_eq_getElem (show i<l.length by omega)]
   exact List.mem_take_iff_getElem.2 ⟨i,by omega,rfl⟩
  ·rw [h2,List.getD_eq_getElem?_getD,List.getElem?_append_right (by simp; omega)]
   have:(l.take e).length=e:=by simp; omega
   rw [this,Nat.sub_self]; rfl
theorem rparse_eq (s:ByteArray) (hs:s.size<1152921504606846976):wherryref11_Parse s=some (match parL (sbytes s) with | some p=>(p,true) | none=>(noP,false)):=by
 unfold wherryref11_Parse parL
 by_cases h2:sbytes s=[60,62]
 ·rw [if_pos h2]
  exact cnd_t (by rw [ns2]; exact decide_eq_true h2) rfl
 ·rw [if_neg h2]
  refine cnd_f (by rw [ns2]; exact decide_eq_false h2) ?_
  rcases mid_cases (sbytes s) with ⟨m,hm,hmid⟩ | hmid
  ·rw [hmid]
   have hml:m.length+2=s.size:=by rw [size_sb,hm]; simp
   have hbm:byt m:=by
    have:=byt_sbytes s
    rw [hm] at this
    intro x hx
    exact this x (by simp [hx])
   have c0:=chrD (s:=s) (i:=0) (by omega)
   have c1:=chrD (s:=s) (i:=s.size-1) (by omega)
   have x0:(sbytes s).getD 0 0=60:=by rw [hm]; rfl
   have x1:(sbytes s).getD (s.size-1) 0=62:=by
    rw [hm,← hml]
    show (60::(m++[62])).getD (m.length+1) 0=62
    rw [List.getD_cons_succ,List.getD_eq_getElem?_getD,List.getElem?_append_right (Nat.le_refl _)]; simp
   rw [x0] at c0
   rw [x1] at c1
   have w:some (IntKind.i64.wrap ((s.size:Int)-1))=some ((s.size-1:Nat):Int):=by rw [wrap_i (by omega) (by omega)]; congr 1; omega
   have e1:subO s 1 ((s.size-1:Nat):Int)=some (bstr m):=by
    have:=sub_of (s:=s) (a:=1) (b:=s.size-1) (by omega) (by omega)
    rw [show s.size-1-1=m.length by omega,hm] at this
    simpa using this
   refine bndL (s:=false) (cnd_f (decide_eq_false (by omega)) (bnd c0 (cnd_f rfl (bnd w (bnd c1 rfl))))) (cnd_f rfl (bnd w (bnd e1 ?_)))
   have hsz:(bstr m).size=m.length:=bstr_size m
   have hmm:sbytes (bstr m)=m:=sbytes_bstr hbm
   have hlp:=fun (f:Int→Option (Int⊕(Unit⊕(T_Path×Bool))))=>loop_find (R:=T_Path×Bool) (f:=f) 64 m (fun e=>cond (patB ⟨false,bstr (m.take e),bstr (m.drop (e+1))⟩) (⟨false,bstr (m.take e),bstr (m.drop (e+1))⟩,true) (noP,false)) (fuel:=BIG) (by unfold BIG; omega)
   have hget:∀ i,i<m.length→chrO (bstr m) (i:Int)=some (m.getD i 0):=by
    intro i hi
    have:=chrD (s:=bstr m) (i:=i) (by omega)
    rwa [hmm] at this
   refine (congrArg (fun x=>bindS x _ _) (hlp _ ?_ ?_ ?_)).trans ?_
   ·intro i hi hne
    exact cnd_t (decide_eq_true (by omega)) (bnd (hget i hi) (cnd_f (by simpa using hne) (bnd (by rw [wrap_succ (by omega)]) rfl)))
   ·intro i hi he
    have s1:subO (bstr m) 0 (i:Int)=some (bstr (m.take i)):=by
     have:=sub_of (s:=bstr m) (a:=0) (b:=i) (by omega) (by omega)
     rw [hmm] at this
     simpa using this
    have s2:subO (bstr m) ((i+1:Nat):Int) ((bstr m).size:Int)=some (bstr (m.drop (i+1))):=by
     have:=sub_of (s:=bstr m) (a:=i+1) (b:=(bstr m).size) (by omega) (Nat.le_refl _)
     rw [hmm,List.take_of_length_le (by simp; omega)] at this
     exact this
    have w3:some (IntKind.i64.wrap ((i:Int)+1))=some ((i+1:Nat):Int):=by rw [wrap_succ (by omega)]
    refine cnd_t (decide_eq_true (by omega)) (bnd (hget i hi) (cnd_t (by rw [he]; rfl) (bnd s1 (bnd w3 (bnd s2 (bnd (rpath_eq _) ?_))))))
    unfold wherryref11_keep
    cases patB ⟨false,bstr (m.take i),bstr (m.drop (i+1))⟩ <;> rfl
   ·exact cnd_f (decide_eq_false (by omega)) rfl
   ·simp only [boxL]
    cases idx1 64 m with
    | none=>rfl
    | some e =>
     dsimp only
     cases patB ⟨false,bstr (m.take e),bstr (m.drop (e+1))⟩ <;> rfl
  ·rw [hmid]
   refine bndL (s:=true) ?_ (cnd_t rfl rfl)
   by_cases hlt:s.size<2
   ·exact cnd_t (decide_eq_true (by omega)) rfl
   ·have c0:=chrD (s:=s) (i:=0) (by omega)
    have c1:=chrD (s:=s) (i:=s.size-1) (by omega)
    have w:some (IntKind.i64.wrap ((s.size:Int)-1))=some ((s.size-1:Nat):Int):=by rw [wrap_i (by omega) (by omega)]; congr 1; omega
    have hne:sbytes s≠[]:=by intro e; have:=sbytes_len s; rw [e] at this; simp at this; omega
    refine cnd_f (decide_eq_false (by omega)) (bnd c0 ?_)
    by_cases h0:(sbytes s).getD 0 0=60
    ·refine cnd_f (by rw [h0]; rfl) (bnd w (bnd c1 ?_))
     have hl:(sbytes s).getD (s.size-1) 0≠62:=by
      intro h62
      unfold midL at hmid
      rw [if_pos ⟨by rw [head_getD hne,h0],by rw [sbytes_len]; omega,by rw [last_getD hne,sbytes_len,h62]⟩] at hmid
      cases hmid
     have:((sbytes s).getD (s.size-1) 0 != 62)=true:=by simpa using hl
     rw [this]
    ·exact cnd_t (by simpa using h0) rfl
theorem rtext_eq (p:T_Path) (h:Small p):wherryref11_Text p=some (bstr (txtL p)):=by
 unfold wherryref11_Text txtL
 cases hn:p.Null
 ·exact cnd_f rfl (cats p h _ _ rfl)
 ·exact cnd_t rfl rfl
theorem rfold_eq (s:ByteArray) (hs:s.size<140737488355328):wherryref11_Fold s=some (lowS s):=by
 unfold wherryref11_Fold
 have hlen:(sbytes s).length=s.size:=sbytes_len s
 refine bndL (s:=lowL (sbytes s)) ?_ rfl
 refine loop_from (fun i=>(((sbytes s).take i).map lowB,(i:Int))) s.size BIG (by simp) (by unfold BIG; omega) (fun i hi => ?_) ?_
 ·have hi':i<(sbytes s).length:=by omega
  have hb:=byt_sbytes s _ (List.getElem_mem hi')
  have hc:=chr_of hi
  have w:some (IntKind.i64.wrap ((i:Int)+1))=some ((i+1:Nat):Int):=by rw [wrap_succ (by omega)]
  have ap:appO 1 (((sbytes s).take i).map lowB) [lowB (sbytes s)[i]]=some (((sbytes s).take (i+1)).map lowB):=by
   rw [app_of (by simp; omega) (by simp; omega),List.take_add_one,List.getElem?_eq_getElem hi']
   simp only [Option.toList_some,List.map_append,List.map_cons,List.map_nil]
  refine cnd_t (decide_eq_true (by omega)) (bnd hc (bndL (s:=lowB (sbytes s)[i]) ?_ (bnd ap (bnd w rfl))))
  by_cases h1:65≤(sbytes s)[i]∧(sbytes s)[i]≤90
  ·have e:lowB (sbytes s)[i]=(sbytes s)[i]+32:=by unfold lowB; rw [if_pos h1]
   exact bndL (s:=true) (cnd_t (decide_eq_true h1.1) (by rw [decide_eq_true h1.2])) (cnd_t rfl (bnd (by rw [u8_wrap (by omega) (by omega)]) (by rw [e])))
  ·have e:lowB (sbytes s)[i]=(sbytes s)[i]:=by unfold lowB; rw [if_neg h1]
   refine bndL (s:=false) ?_ (cnd_f rfl (by rw [e]))
   by_cases h2:65≤(sbytes s)[i]
   ·exact cnd_t (decide_eq_true h2) (by rw [decide_eq_false fun h3=>h1 ⟨h2,h3⟩])
   ·exact cnd_f (decide_eq_false h2) rfl
 ·refine cnd_f (decide_eq_false (by omega)) ?_
  rw [List.take_of_length_le (by omega)]; rfl
/-! DotB's and DotD's lemmas that stages without Stuff want too: Lines,the reference's Body. -/
theorem tot_app:∀ a b:List (List Int),tot (a++b)=tot a+tot b
 | [],b=>by simp [tot]
 | x::a,b=>by simp only [List.cons_append,tot,tot_app a b]; omega
theorem tot_mem {ls:List (List Int)} {l:List Int} (h:l∈ls):l.length+2≤tot ls:=by
 induction ls with
 | nil=>simp at h
 | cons m ls ih =>
  simp only [tot]
  rcases List.mem_cons.1 h with rfl | h
  ·omega
  ·have:=ih h; omega
def linesS:List Int→List (List Int)→Option (List (List Int)⊕Unit):=fun (x:(List Int)) (s7:(List (List Int))) =>
   (appO 1 ([]:List Int) x).bind fun v2 =>
   (appO 24 s7 [v2]).bind fun v3 =>
   some (.inl v3)
theorem fol_lines:∀ (ls s:List (List Int)),s.length * 24+tot ls * 24<140737488355328→folL linesS ls s=some (.inl (s++ls))
 | [],s,_=>by simp [folL]
 | l::ls,s,hs=>by
  simp only [tot] at hs
  have e:linesS l s=some (.inl (s++[l])):=by
   unfold linesS
   refine bnd (x:=l) (by rw [app_of (by simp; omega) (by simp; omega)]; rfl) (bnd (app_of (by simp; omega) (by simp; omega)) rfl)
  simp only [folL]
  rw [e]
  refine (fol_lines ls _ (by simp only [List.length_append,List.length_cons,List.length_nil]; omega)).trans ?_
  simp
theorem lines14 {b:List Int} {ls:List (List Int)} {r:List Int} (H:Lns b ls r) (hb:byt b) (hl:b.length<4000000000):dots_Lines b=some ls:=by
 have hj:=lns_join H
 have ht:b.length=tot ls+r.length:=by rw [hj,List.length_append,jn_len]
 unfold dots_Lines dots_lines
 refine bnd rfl ?_
 refine bndL (s:=ls) (lines_range linesS H hb (by omega) _ _ ?_) rfl
 have:=fol_lines ls [] (by simp; omega)
 simpa using this
def pfx (w l:List Int):Option (List Int):=if w.length≤l.length∧lowL (l.take w.length)=lowL w then some (l.drop w.length) else none
theorem eqL (s t:ByteArray):(s.toList==t.toList)=decide (sbytes s=sbytes t):=by
 rw [toList_beq]
 exact decide_eq_decide.2 str_eq_iff
theorem begins_eq (s w:ByteArray) (hs:s.size<140737488355328) (hw:lowL (sbytes w)=sbytes w):wherryref11_begins s w=some (match pfx (sbytes w) (sbytes s) with | none=>(e0,false) | some r=>(bstr r,true)):=by
 unfold wherryref11_begins pfx
 rw [sbytes_len,sbytes_len]
 by_cases h:s.size<w.size
 ·rw [if_neg (by omega)]
  exact bndL (s:=true) (cnd_t (decide_eq_true (by omega)) rfl) (cnd_t rfl rfl)
 ·have h1:=sub_of (s:=s) (a:=0) (b:=w.size) (by omega) (by omega)
  rw [List.drop_zero,Nat.sub_zero] at h1
  have hbt:byt ((sbytes s).take w.size):=byt_take (byt_sbytes s) _
  have h2:=rfold_eq (bstr ((sbytes s).take w.size)) (by rw [bstr_size,List.length_take,sbytes_len]; omega)
  have h4:((lowS (bstr ((sbytes s).take w.size))).toList==w.toList)=decide (lowL ((sbytes s).take w.size)=lowL (sbytes w)):=by
   rw [eqL,sbytes_low,sbytes_bstr hbt,hw]
  by_cases hq:lowL ((sbytes s).take w.size)=lowL (sbytes w)
  ·rw [if_pos ⟨by omega,hq⟩]
   rw [decide_eq_true hq] at h4
   have h3:=sub_of (s:=s) (a:=w.size) (b:=s.size) (by omega) (by omega)
   rw [List.take_of_length_le (by rw [List.length_drop,sbytes_len]; exact Nat.le_refl _)] at h3
   exact bndL (s:=false) (cnd_f (decide_eq_false (by omega)) (bnd h1 (bnd h2 (by rw [h4]; rfl)))) (cnd_f rfl (bnd h3 rfl))
  ·rw [if_neg (fun h=>hq h.2)]
   rw [decide_eq_false hq] at h4
   exact bndL (s:=true) (cnd_f (decide_eq_false (by omega)) (bnd h1 (bnd h2 (by rw [h4]; rfl)))) (cnd_t rfl rfl)
def rendS (b:List Int):((Int))→Option ((Int)⊕((Unit)⊕Int)):=(fun (s21:Int) =>
 (some (IntKind.i64.wrap (s21+1))).bind fun v1 =>
 cond ((decide (v1<(b.length:Int))))
  (bindS (S:=Bool) (A:=((Int)⊕((Unit)⊕Int)))
   ((ixO s21 b.length).bind fun v3 =>
   (getO b v3).bind fun v4 =>
   cond ((v4==13))
    ((some (IntKind.i64.wrap (s21+1))).bind fun v5 =>
    (ixO v5 b.length).bind fun v6 =>
    (getO b v6).bind fun v7 =>
    some (.inl (v7==10)))
    (some (.inl false)))
   (fun (s35:Bool) =>
    cond (s35)
     (some (.inr (.inr (s21))))
     ((some (IntKind.i64.wrap (s21+1))).bind fun v13 =>
     some (.inl v13))) some)
  (some (.inr (.inl ()))))
theorem end11 (b:List Int) (hl:b.length<1000000) (at_:Nat) (hat:at_≤b.length):wherryref11_end b (at_:Int)=some (match idx2 (b.drop at_) with | none => -1 | some e=>((at_+e:Nat):Int)):=by
 have key:∀ (k at_ fuel:Nat),b.length-at_=k→at_≤b.length→k<fuel→loopF (rendS b) fuel (at_:Int)=some (match idx2 (b.drop at_) with | none => .inl () | some e => .inr ((at_+e:Nat):Int)):=by
  intro k
  induction k with
  | zero =>
   intro at_ fuel hk ha hf
   obtain ⟨f,rfl⟩:∃ f,fuel=f+1:=⟨fuel-1,by omega⟩
   rw [List.drop_eq_nil_of_le (by omega)]
   refine loop_exit ?_
   unfold rendS
   exact bnd (by rw [wrap_succ (by omega)]) (cnd_f (decide_eq_false (by omega)) rfl)
  | succ k ih =>
   intro at_ fuel hk ha hf
   obtain ⟨f,rfl⟩:∃ f,fuel=f+1:=⟨fuel-1,by omega⟩
   have hlt:at_<b.length:=by omega
   have ih':=ih (at_+1) f (by omega) (by omega) (by omega)
   have hd:b.drop at_=b[at_]::b.drop (at_+1):=List.drop_eq_getElem_cons hlt
   rw [hd]
   unfold idx2
   by_cases hend:at_+1<b.length
   ·have hd2:b.drop (at_+1)=b[at_+1]::b.drop (at_+2):=List.drop_eq_getElem_cons hend
    have hh:(b.drop (at_+1)).head? = some b[at_+1]:=by rw [hd2]; rfl
    have hg0:=getO_of hlt
    have hg1:=getO_of hend
    have sel:(bindS (S:=Bool) (A:=((Int)⊕((Unit)⊕Int)))
      ((ixO (at_:Int) b.length).bind fun v3=>(getO b v3).bind fun v4=>cond ((v4==13)) ((some (IntKind.i64.wrap ((at_:Int)+1))).bind fun v5=>(ixO v5 b.length).bind fun v6=>(getO b v6).bind fun v7=>some (.inl (v7==10))) (some (.inl false)))
      (fun (s35:Bool)=>cond (s35) (some (.inr (.inr ((at_:Int))))) ((some (IntKind.i64.wrap ((at_:Int)+1))).bind fun v13=>some (.inl v13))) some) =
      some (if b[at_]=13∧b[at_+1]=10 then .inr (.inr (at_:Int)) else .inl ((at_+1:Nat):Int)):=by
     by_cases h13:b[at_]=13
     ·by_cases h10:b[at_+1]=10
      ·rw [if_pos ⟨h13,h10⟩]
       exact bndL (s:=true) (bnd (ixO_of hlt) (bnd hg0 (cnd_t (by simp [h13]) (bnd (by rw [wrap_succ (by omega)]) (bnd (ixO_of hend) (bnd hg1 (by rw [h10]; rfl))))))) rfl
      ·rw [if_neg fun h=>h10 h.2]
       exact bndL (s:=false) (bnd (ixO_of hlt) (bnd hg0 (cnd_t (by simp [h13]) (bnd (by rw [wrap_succ (by omega)]) (bnd (ixO_of hend) (bnd hg1 (by rw [show (b[at_+1]==10)=false by simpa using h10]))))))) (cnd_f rfl (bnd (by rw [wrap_succ (by omega)]) rfl))
     ·rw [if_neg fun h=>h13 h.1]
      exact bndL (s:=false) (bnd (ixO_of hlt) (bnd hg0 (cnd_f (by simpa using h13) rfl))) (cnd_f rfl (bnd (by rw [wrap_succ (by omega)]) rfl))
    rw [hh]
    simp only [Option.some.injEq]
    by_cases hc:b[at_]=13∧b[at_+1]=10
    ·rw [if_pos hc] at sel
     rw [if_pos hc]
     refine loop_exit ?_
     unfold rendS
     exact bnd (by rw [wrap_succ (by omega)]) (cnd_t (decide_eq_true (by omega)) sel)
    ·rw [if_neg hc] at sel
     rw [if_neg hc]
     refine (loop_next (s':=((at_+1:Nat):Int)) ?_).trans (ih'.trans ?_)
     ·unfold rendS
      exact bnd (by rw [wrap_succ (by omega)]) (cnd_t (decide_eq_true (by omega)) sel)
     ·cases idx2 (b.drop (at_+1)) with
      | none=>rfl
      | some e=>simp only [Option.map_some]; congr 2; omega
   ·have hd2:b.drop (at_+1)=[]:=List.drop_eq_nil_of_le (by omega)
    rw [hd2]
    simp only [List.head?_nil,reduceCtorEq,and_false,if_false,idx2,Option.map_none]
    refine loop_exit ?_
    unfold rendS
    exact bnd (by rw [wrap_succ (by omega)]) (cnd_f (decide_eq_false (by omega)) rfl)
 unfold wherryref11_end
 have lp:=key (b.length-at_) at_ BIG rfl hat (by unfold BIG; omega)
 cases h:idx2 (b.drop at_) with
 | none=>rw [h] at lp; exact bndL lp rfl
 | some e=>rw [h] at lp; exact bndR lp rfl
theorem twin15 (l:List Int) (h:l.length<4294967296):wherrykeep_Twin l=some l:=by
 unfold wherrykeep_Twin
 exact bnd (x:=l) (by simp only [appO]; rw [if_pos (by simp; omega)]; simp) rfl
theorem len_tot15:∀ ls:List (List Int),ls.length≤tot ls
 | []=>by simp
 | l::ls=>by have:=len_tot15 ls; simp only [tot,List.length_cons]; omega
theorem sb_no {c:Int} {P:Int→Bool} (hP:P c=false) {l:List Int} (h:l.all P=true):c ∉ l:=by
 intro hm
 have:=List.all_eq_true.1 h c hm
 rw [hP] at this
 cases this
theorem spl_all {P:List Int→Bool} {c:Int} (Q:Int→Bool) (hQ:Q c=true) (hPQ:∀ l,P l=true→l.all Q=true):∀ l,(spl c l).all P=true→l.all Q=true
 | [],_=>rfl
 | x::r,h=>by
  have hne:=spl_ne c r
  unfold spl at h
  by_cases hx:x=c
  ·rw [if_pos hx] at h
   simp only [List.all_cons,Bool.and_eq_true] at h
   rw [List.all_cons,hx,hQ,spl_all Q hQ hPQ r h.2]; rfl
  ·rw [if_neg hx] at h
   cases hs:spl c r with
   | nil=>exact absurd hs hne
   | cons a ps =>
    rw [hs] at h
    simp only [List.all_cons,Bool.and_eq_true] at h
    have h1:=hPQ _ h.1
    simp only [List.all_cons,Bool.and_eq_true] at h1
    have key:∀ (r:List Int) (a:List Int) (ps:List (List Int)),spl c r=a::ps→a.all Q=true→ps.all P=true→r.all Q=true:=by
     intro r
     induction r with
     | nil=>intros; rfl
     | cons y r ih =>
      intro a ps e ha hps
      unfold spl at e
      by_cases hy:y=c
      ·rw [if_pos hy] at e
       cases e
       cases hs2:spl c r with
       | nil=>exact absurd hs2 (spl_ne c r)
       | cons b qs =>
        rw [hs2] at hps
        simp only [List.all_cons,Bool.and_eq_true] at hps
        rw [List.all_cons,hy,hQ,ih b qs hs2 (hPQ _ hps.1) hps.2]; rfl
      ·rw [if_neg hy] at e
       cases hs2:spl c r with
       | nil=>exact absurd hs2 (spl_ne c r)
       | cons b qs =>
        rw [hs2] at e
        cases e
        simp only [List.all_cons,Bool.and_eq_true] at ha
        rw [List.all_cons,ha.1,ih b ps hs2 ha.2 hps]; rfl
    rw [List.all_cons,h1.1,key r a ps hs h1.2 h.2]; rfl
def atD (c:Int):Bool:=atB c||c==46
def lbD (c:Int):Bool:=lbB c||c==46
theorem loc_all {l:List Int} (h:locB l=true):l.all atD=true:=by
 unfold locB at h
 rw [Bool.and_eq_true] at h
 refine spl_all atD (by decide) (fun p hp => ?_) l h.2
 unfold atmB at hp
 rw [Bool.and_eq_true] at hp
 rw [List.all_eq_true] at *
 intro x hx
 unfold atD
 rw [hp.2 x hx]; rfl
theorem dom_all {l:List Int} (h:domB l=true):l.all lbD=true:=by
 unfold domB at h
 rw [Bool.and_eq_true] at h
 refine spl_all lbD (by decide) (fun p hp => ?_) l h.2
 rw [labB_E,Bool.and_eq_true] at hp
 rw [List.all_eq_true] at *
 intro x hx
 unfold lbD
 rw [hp.2 x hx]; rfl
theorem loc_no {c:Int} (hc:atD c=false) {l:List Int} (h:locB l=true):c ∉ l:=sb_no hc (loc_all h)
theorem dom_no {c:Int} (hc:lbD c=false) {l:List Int} (h:domB l=true):c ∉ l:=sb_no hc (dom_all h)
theorem locB_len {l:List Int} (h:locB l=true):l.length≤64:=by
 unfold locB at h; rw [Bool.and_eq_true] at h; simpa using h.1
theorem domB_len {l:List Int} (h:domB l=true):l.length≤255:=by
 unfold domB at h; rw [Bool.and_eq_true] at h; simpa using h.1
theorem par_txt (p:T_Path) (h:patB p=true):parL (txtL p)=some p:=by
 obtain ⟨n,l,d⟩:=p
 cases n
 ·have hh:=h
  unfold patB at h
  simp only [cond_false,Bool.and_eq_true] at h
  have n64:(64:Int) ∉ sbytes l:=loc_no (by decide) h.1
  unfold parL txtL
  simp only [cond_false]
  rw [if_neg (by intro e; have:=congrArg List.length e; simp at this; omega)]
  have e:(60::(sbytes l++64::(sbytes d++[62])):List Int)=60::((sbytes l++64::sbytes d)++[62]):=by simp
  rw [e,midL_mk]
  simp only [boxL,idx1_app n64]
  have e1:(sbytes l++64::sbytes d).take (sbytes l).length=sbytes l:=by simp
  have e2:(sbytes l++64::sbytes d).drop ((sbytes l).length+1)=sbytes d:=by
   rw [← List.drop_drop]; simp
  rw [e1,e2,bstr_sbytes,bstr_sbytes,if_pos hh]
 ·unfold patB at h
  simp only [cond_true,Bool.and_eq_true,List.isEmpty_iff] at h
  have e1:l=e0:=sbytes_inj (by rw [h.1]; rfl)
  have e2:d=e0:=sbytes_inj (by rw [h.2]; rfl)
  subst e1 e2
  rfl
theorem txt_par {l:List Int} {p:T_Path} (hb:byt l) (h:parL l=some p):txtL p=l∧patB p=true:=by
 unfold parL at h
 split at h
 ·rename_i e
  cases h
  exact ⟨e.symm,rfl⟩
 ·rcases mid_cases l with ⟨m,hm,hmid⟩ | hmid
  ·rw [hmid] at h
   simp only [boxL] at h
   cases hi:idx1 64 m with
   | none=>rw [hi] at h; cases h
   | some e =>
    rw [hi] at h
    dsimp only at h
    split at h
    ·rename_i hp
     cases h
     obtain ⟨h1,h2,h3⟩:=idx1_some hi
     have hbm:byt m:=by
      rw [hm] at hb
      intro x hx
      exact hb x (by simp [hx])
     refine ⟨?_,hp⟩
     unfold txtL
     simp only [cond_false]
     rw [sbytes_bstr (byt_take hbm _),sbytes_bstr (byt_drop hbm _),hm]
     conv=>rhs; rw [h2]
     simp
    ·cases h
  ·rw [hmid] at h; cases h
theorem cln_app {a b:List Int} (ha:cln a) (hb:cln b):cln (a++b):=fun x hx=>by
 rcases List.mem_append.1 hx with h | h
 ·exact ha x h
 ·exact hb x h
def q1:ByteArray:=(⟨#[70,114,111,109,58,32,60,112,111,115,116,109,97,115,116,101,114,64]⟩:ByteArray)
def q1L:List Int:=[70,114,111,109,58,32,60,112,111,115,116,109,97,115,116,101,114,64]
theorem q1_sb:sbytes q1=q1L:=rfl
theorem q1_len:q1L.length=18:=rfl
theorem q1_cln:cln q1L:=of_decide_eq_true (p:=∀ x∈q1L,x≠13∧x≠10) (by kernel_rfl)
def q2:ByteArray:=(⟨#[84,111,58,32]⟩:ByteArray)
def q2L:List Int:=[84,111,58,32]
theorem q2_sb:sbytes q2=q2L:=rfl
theorem q2_len:q2L.length=4:=rfl
theorem q2_cln:cln q2L:=of_decide_eq_true (p:=∀ x∈q2L,x≠13∧x≠10) (by kernel_rfl)
def q3:ByteArray:=(⟨#[83,117,98,106,101,99,116,58,32,85,110,100,101,108,105,118,101,114,101,100,32,109,97,105,108]⟩:ByteArray)
def q3L:List Int:=[83,117,98,106,101,99,116,58,32,85,110,100,101,108,105,118,101,114,101,100,32,109,97,105,108]
theorem q3_sb:sbytes q3=q3L:=rfl
theorem q3_len:q3L.length=25:=rfl
theorem q3_cln:cln q3L:=of_decide_eq_true (p:=∀ x∈q3L,x≠13∧x≠10) (by kernel_rfl)
def q4:ByteArray:=(⟨#[67,111,110,116,101,110,116,45,84,121,112,101,58,32,109,117,108,116,105,112,97,114,116,47,114,101,112,111,114,116,59,32,114,101,112,111,114,116,45,116,121,112,101,61,100,101,108,105,118,101,114,121,45,115,116,97,116,117,115,59,32,98,111,117,110,100,97,114,121,61,119]⟩:ByteArray)
def q4L:List Int:=[67,111,110,116,101,110,116,45,84,121,112,101,58,32,109,117,108,116,105,112,97,114,116,47,114,101,112,111,114,116,59,32,114,101,112,111,114,116,45,116,121,112,101,61,100,101,108,105,118,101,114,121,45,115,116,97,116,117,115,59,32,98,111,117,110,100,97,114,121,61,119]
theorem q4_sb:sbytes q4=q4L:=rfl
theorem q4_len:q4L.length=71:=rfl
theorem q4_cln:cln q4L:=of_decide_eq_true (p:=∀ x∈q4L,x≠13∧x≠10) (by kernel_rfl)
def q6:ByteArray:=(⟨#[45,45,119]⟩:ByteArray)
def q6L:List Int:=[45,45,119]
theorem q6_sb:sbytes q6=q6L:=rfl
theorem q6_len:q6L.length=3:=rfl
theorem q6_cln:cln q6L:=of_decide_eq_true (p:=∀ x∈q6L,x≠13∧x≠10) (by kernel_rfl)
def q7:ByteArray:=(⟨#[67,111,110,116,101,110,116,45,84,121,112,101,58,32,116,101,120,116,47,112,108,97,105,110]⟩:ByteArray)
def q7L:List Int:=[67,111,110,116,101,110,116,45,84,121,112,101,58,32,116,101,120,116,47,112,108,97,105,110]
theorem q7_sb:sbytes q7=q7L:=rfl
theorem q7_len:q7L.length=24:=rfl
theorem q7_cln:cln q7L:=of_decide_eq_true (p:=∀ x∈q7L,x≠13∧x≠10) (by kernel_rfl)
def q9:ByteArray:=(⟨#[78,111,32,119,97,121,32,119,97,115,32,102,111,117,110,100,32,116,111,32]⟩:ByteArray)
def q9L:List Int:=[78,111,32,119,97,121,32,119,97,115,32,102,111,117,110,100,32,116,111,32]
theorem q9_sb:sbytes q9=q9L:=rfl
theorem q9_len:q9L.length=20:=rfl
theorem q9_cln:cln q9L:=of_decide_eq_true (p:=∀ x∈q9L,x≠13∧x≠10) (by kernel_rfl)
def q11:ByteArray:=(⟨#[67,111,110,116,101,110,116,45,84,121,112,101,58,32,109,101,115,115,97,103,101,47,100,101,108,105,118,101,114,121,45,115,116,97,116,117,115]⟩:ByteArray)
def q11L:List Int:=[67,111,110,116,101,110,116,45,84,121,112,101,58,32,109,101,115,115,97,103,101,47,100,101,108,105,118,101,114,121,45,115,116,97,116,117,115]
theorem q11_sb:sbytes q11=q11L:=rfl
theorem q11_len:q11L.length=37:=rfl
theorem q11_cln:cln q11L:=of_decide_eq_true (p:=∀ x∈q11L,x≠13∧x≠10) (by kernel_rfl)
def q13:ByteArray:=(⟨#[82,101,112,111,114,116,105,110,103,45,77,84,65,58,32,100,110,115,59,32]⟩:ByteArray)
def q13L:List Int:=[82,101,112,111,114,116,105,110,103,45,77,84,65,58,32,100,110,115,59,32]
theorem q13_sb:sbytes q13=q13L:=rfl
theorem q13_len:q13L.length=20:=rfl
theorem q13_cln:cln q13L:=of_decide_eq_true (p:=∀ x∈q13L,x≠13∧x≠10) (by kernel_rfl)
def q15:ByteArray:=(⟨#[70,105,110,97,108,45,82,101,99,105,112,105,101,110,116,58,32,114,102,99,56,50,50,59,32]⟩:ByteArray)
def q15L:List Int:=[70,105,110,97,108,45,82,101,99,105,112,105,101,110,116,58,32,114,102,99,56,50,50,59,32]
theorem q15_sb:sbytes q15=q15L:=rfl
theorem q15_len:q15L.length=25:=rfl
theorem q15_cln:cln q15L:=of_decide_eq_true (p:=∀ x∈q15L,x≠13∧x≠10) (by kernel_rfl)
def q16:ByteArray:=(⟨#[65,99,116,105,111,110,58,32,102,97,105,108,101,100]⟩:ByteArray)
def q16L:List Int:=[65,99,116,105,111,110,58,32,102,97,105,108,101,100]
theorem q16_sb:sbytes q16=q16L:=rfl
theorem q16_len:q16L.length=14:=rfl
theorem q16_cln:cln q16L:=of_decide_eq_true (p:=∀ x∈q16L,x≠13∧x≠10) (by kernel_rfl)
def q17:ByteArray:=(⟨#[83,116,97,116,117,115,58,32,52,46,52,46,55]⟩:ByteArray)
def q17L:List Int:=[83,116,97,116,117,115,58,32,52,46,52,46,55]
theorem q17_sb:sbytes q17=q17L:=rfl
theorem q17_len:q17L.length=13:=rfl
theorem q17_cln:cln q17L:=of_decide_eq_true (p:=∀ x∈q17L,x≠13∧x≠10) (by kernel_rfl)
def q18:ByteArray:=(⟨#[45,45,119,45,45]⟩:ByteArray)
def q18L:List Int:=[45,45,119,45,45]
theorem q18_sb:sbytes q18=q18L:=rfl
theorem q18_len:q18L.length=5:=rfl
theorem q18_cln:cln q18L:=of_decide_eq_true (p:=∀ x∈q18L,x≠13∧x≠10) (by kernel_rfl)
def repL (S P Q:List Int):List (List Int):=(q1L++(S++[62]))::(q2L++P)::q3L::q4L::[]::q6L::q7L::[]::(q9L++(Q++[46]))::q6L::q11L::[]::(q13L++S)::[]::(q15L++Q)::q16L::q17L::q18L::[]
def xsB (a b c d e:ByteArray):List ByteArray:=[a,b,q3,q4,(⟨#[]⟩:ByteArray),q6,q7,(⟨#[]⟩:ByteArray),c,q6,q11,(⟨#[]⟩:ByteArray),d,(⟨#[]⟩:ByteArray),e,q16,q17,q18]
theorem rep_len (S P Q:List Int):(repL S P Q).length=18:=rfl
theorem rep_tot (S P Q:List Int):tot (repL S P Q)=2 * S.length+P.length+2 * Q.length+320:=by
 simp only [repL,tot,List.length_append,List.length_cons,List.length_nil,q1_len,q2_len,q3_len,q4_len,q6_len,q7_len,q9_len,q11_len,q13_len,q15_len,q16_len,q17_len,q18_len]
 omega
theorem cln_nil:cln []:=fun x hx=>by cases hx
theorem cln1 {c:Int} (h1:c≠13) (h2:c≠10):cln [c]:=fun x hx=>by rw [List.mem_singleton.1 hx]; exact ⟨h1,h2⟩
theorem rep_cln {S P Q:List Int} (hS:cln S) (hP:cln P) (hQ:cln Q):∀ l∈repL S P Q,cln l:=by
 intro l hl
 simp only [repL,List.mem_cons,List.not_mem_nil,or_false] at hl
 rcases hl with rfl | rfl | rfl | rfl | rfl | rfl | rfl | rfl | rfl | rfl | rfl | rfl | rfl | rfl | rfl | rfl | rfl | rfl
 ·exact cln_app q1_cln (cln_app hS (cln1 (by decide) (by decide)))
 ·exact cln_app q2_cln hP
 ·exact q3_cln
 ·exact q4_cln
 ·exact cln_nil
 ·exact q6_cln
 ·exact q7_cln
 ·exact cln_nil
 ·exact cln_app q9_cln (cln_app hQ (cln1 (by decide) (by decide)))
 ·exact q6_cln
 ·exact q11_cln
 ·exact cln_nil
 ·exact cln_app q13_cln hS
 ·exact cln_nil
 ·exact cln_app q15_cln hQ
 ·exact q16_cln
 ·exact q17_cln
 ·exact q18_cln
theorem q_byt (s:ByteArray) (l:List Int) (h:sbytes s=l):byt l:=h ▸ byt_sbytes s
theorem byt1 {c:Int} (h:0≤c∧c<256):byt [c]:=fun x hx=>by rw [List.mem_singleton.1 hx]; exact h
theorem rep_byt {S P Q:List Int} (hS:byt S) (hP:byt P) (hQ:byt Q):∀ l∈repL S P Q,byt l:=by
 intro l hl
 simp only [repL,List.mem_cons,List.not_mem_nil,or_false] at hl
 rcases hl with rfl | rfl | rfl | rfl | rfl | rfl | rfl | rfl | rfl | rfl | rfl | rfl | rfl | rfl | rfl | rfl | rfl | rfl
 ·exact byt_app (q_byt _ _ q1_sb) (byt_app hS (byt1 (by decide)))
 ·exact byt_app (q_byt _ _ q2_sb) hP
 ·exact q_byt _ _ q3_sb
 ·exact q_byt _ _ q4_sb
 ·exact byt_nil
 ·exact q_byt _ _ q6_sb
 ·exact q_byt _ _ q7_sb
 ·exact byt_nil
 ·exact byt_app (q_byt _ _ q9_sb) (byt_app hQ (byt1 (by decide)))
 ·exact q_byt _ _ q6_sb
 ·exact q_byt _ _ q11_sb
 ·exact byt_nil
 ·exact byt_app (q_byt _ _ q13_sb) hS
 ·exact byt_nil
 ·exact byt_app (q_byt _ _ q15_sb) hQ
 ·exact q_byt _ _ q16_sb
 ·exact q_byt _ _ q17_sb
 ·exact q_byt _ _ q18_sb
theorem xs_sb (S P Q:List Int) (hS:byt S) (hP:byt P) (hQ:byt Q):(xsB (bstr (q1L++(S++[62]))) (bstr (q2L++P)) (bstr (q9L++(Q++[46]))) (bstr (q13L++S)) (bstr (q15L++Q))).map sbytes=repL S P Q:=by
 have h:=rep_byt hS hP hQ
 simp only [xsB,List.map_cons,List.map_nil]
 rw [sbytes_bstr (h _ (by simp [repL])),sbytes_bstr (h (q2L++P) (by simp [repL])),sbytes_bstr (h (q9L++(Q++[46])) (by simp [repL])),sbytes_bstr (h (q13L++S) (by simp [repL])),sbytes_bstr (h (q15L++Q) (by simp [repL]))]
 rfl
theorem sb_mk (l:List UInt8):sbytes ⟨l.toArray⟩=l.map (fun b=>(b.toNat:Int)):=by simp [sbytes]
theorem jn_tail:∀ (r:List ByteArray),(Lib.joinTail [13,10] (r.map (·.data.toList))).map (fun b=>(b.toNat:Int))++[13,10]=13::10::jn (r.map sbytes)
 | []=>rfl
 | x::r=>by
  have ih:=jn_tail r
  simp only [Lib.joinTail,List.map_cons,List.flatten_cons,List.map_append,List.append_assoc,jn] at ih ⊢
  rw [ih]
  rfl
theorem join_jn:∀ (xs:List ByteArray),xs≠[]→sbytes ⟨(Lib.join (xs.map (·.data.toList)) [13,10]).toArray⟩++[13,10]=jn (xs.map sbytes)
 | [],h=>absurd rfl h
 | x::r,_=>by
  rw [sb_mk,List.map_cons,Lib.join_cons,List.map_append,List.append_assoc,jn_tail]
  rfl
theorem join_len (xs:List ByteArray) (h:xs≠[]):(Lib.join (xs.map (·.data.toList)) [13,10]).length+2=tot (xs.map sbytes):=by
 have:=congrArg List.length (join_jn xs h)
 rw [List.length_append,sb_mk,List.length_map,jn_len] at this
 exact this
def rg (site:ByteArray) (s p:T_Path):Bool:=domB (sbytes site)&&(patB s&&(!s.Null&&(patB p && !p.Null)))
structure Sm (p:T_Path):Prop where
 l:p.Local.size≤32000
 d:p.Domain.size≤32000
theorem Sm.small {p:T_Path} (h:Sm p):Small p:=⟨by have:=h.l; omega,by have:=h.d; omega⟩
theorem txtR_len {p:T_Path} (h:Sm p):(txtL p).length≤64003:=by
 have h1:=h.l; have h2:=h.d
 unfold txtL
 cases p.Null
 ·simp only [cond_false,List.length_cons,List.length_append,sbytes_len,List.length_nil]; omega
 ·simp
def rtO (p:T_Path):ByteArray:=if patB p=true then bstr (txtL p) else e0
theorem rtxt_eq (p:T_Path) (h:Sm p):report_text p=some (rtO p,patB p && !p.Null):=by
 unfold report_text rtO
 refine bnd (text_eq p h.small) ?_
 cases hp:patB p
 ·exact bndL (s:=false) (cnd_f rfl rfl) rfl
 ·exact bndL (s := !p.Null) (cnd_t rfl rfl) (by simp)
theorem cat2 {k s:ByteArray} {kl l:List Int} (hk:sbytes k=kl) (hs:sbytes s=l) (h1:kl.length≤1000000) (h2:l.length≤1000000):catO k s=some (bstr (kl++l)):=catL hk hs (by omega)
theorem sb46:sbytes (⟨#[46]⟩:ByteArray)=[46]:=rfl
theorem build_eq (site:ByteArray) (s p:T_Path) (h0:site.size≤32000) (hs:Sm s) (hp:Sm p):report_Build site s p=some (if rg site s p=true then (jn (repL (sbytes site) (txtL s) (txtL p)),0) else ([],5)):=by
 unfold report_Build
 refine bnd (rtxt_eq s hs) (bnd (rtxt_eq p hp) ?_)
 cases h1:domB (sbytes site)
 ·rw [if_neg (by simp [rg,h1])]
  exact bndL (s:=true) (bnd (dom_eq site (by omega)) (cnd_t (by rw [h1]; rfl) rfl)) rfl
 cases h2:(patB s && !s.Null)
 ·have e:rg site s p=false:=by unfold rg; rw [← Bool.and_assoc (patB s),h2]; simp
  rw [if_neg (by rw [e]; simp)]
  exact bndL (s:=true) (bnd (dom_eq site (by omega)) (cnd_f (by rw [h1]; rfl) (cnd_t rfl rfl))) rfl
 cases h3:(patB p && !p.Null)
 ·have e:rg site s p=false:=by unfold rg; rw [h3]; simp
  rw [if_neg (by rw [e]; simp)]
  exact bndL (s:=true) (bnd (dom_eq site (by omega)) (cnd_f (by rw [h1]; rfl) (cnd_f rfl rfl))) rfl
 have e2:patB s=true:=by cases hh:patB s <;> simp_all
 have e3:patB p=true:=by cases hh:patB p <;> simp_all
 have e:rg site s p=true:=by unfold rg; rw [← Bool.and_assoc (patB s),h1,h2,h3]; rfl
 have r2:rtO s=bstr (txtL s):=by unfold rtO; rw [if_pos e2]
 have r3:rtO p=bstr (txtL p):=by unfold rtO; rw [if_pos e3]
 rw [if_pos e,r2,r3]
 refine bndL (s:=false) (bnd (dom_eq site (by omega)) (cnd_f (by rw [h1]; rfl) (cnd_f rfl rfl))) (cnd_f rfl ?_)
 have hS:=byt_sbytes site
 have hP:=byt_txt s
 have hQ:=byt_txt p
 have lS:(sbytes site).length≤32000:=by rw [sbytes_len]; exact h0
 have lP:=txtR_len hs
 have lQ:=txtR_len hp
 have b1:sbytes (bstr (q1L++sbytes site))=q1L++sbytes site:=sbytes_bstr (byt_app (q_byt _ _ q1_sb) hS)
 have b9:sbytes (bstr (q9L++txtL p))=q9L++txtL p:=sbytes_bstr (byt_app (q_byt _ _ q9_sb) hQ)
 refine bnd (cat2 q1_sb rfl (by decide) (by omega)) (bnd (cat2 b1 sb62 (by rw [List.length_append,q1_len]; omega) (by decide)) (bnd (cat2 q2_sb (sbytes_bstr hP) (by decide) (by omega)) (bnd (cat2 q9_sb (sbytes_bstr hQ) (by decide) (by omega)) (bnd (cat2 b9 sb46 (by rw [List.length_append,q9_len]; omega) (by decide)) (bnd (cat2 q13_sb rfl (by decide) (by omega)) (bnd (cat2 q15_sb (sbytes_bstr hQ) (by decide) (by omega)) ?_))))))
 rw [List.append_assoc,List.append_assoc]
 have hx:=xs_sb (sbytes site) (txtL s) (txtL p) hS hP hQ
 have hne:xsB (bstr (q1L++(sbytes site++[62]))) (bstr (q2L++txtL s)) (bstr (q9L++(txtL p++[46]))) (bstr (q13L++sbytes site)) (bstr (q15L++txtL p))≠[]:=by simp [xsB]
 have hj:=join_jn _ hne
 have hl:=join_len _ hne
 rw [hx] at hj hl
 rw [rep_tot] at hl
 have hjo:strings_Join (xsB (bstr (q1L++(sbytes site++[62]))) (bstr (q2L++txtL s)) (bstr (q9L++(txtL p++[46]))) (bstr (q13L++sbytes site)) (bstr (q15L++txtL p))) (⟨#[13,10]⟩:ByteArray)=some ⟨(Lib.join ((xsB (bstr (q1L++(sbytes site++[62]))) (bstr (q2L++txtL s)) (bstr (q9L++(txtL p++[46]))) (bstr (q13L++sbytes site)) (bstr (q15L++txtL p))).map (·.data.toList)) [13,10]).toArray⟩:=by
  unfold strings_Join
  rw [if_pos ⟨by simp [xsB],by show (Lib.join _ [13,10]).length≤_; omega⟩]
 refine bnd hjo (bnd (cat2 rfl (rfl:sbytes (⟨#[13,10]⟩:ByteArray)=[13,10]) (by rw [sb_mk,List.length_map]; omega) (by decide)) ?_)
 refine bnd rfl ?_
 show some (sbytes (bstr (_++[13,10])),(0:Int))=_
 rw [hj,sbytes_bstr (jn_byt (rep_byt hS hP hQ))]
theorem inl_of {A:Type} {a b:Bool} (h:a=b):(some (.inl a):Option (Bool⊕A))=some (.inl b):=by rw [h]
def trimL (w l:List Int):List Int:=if w <+: l then l.drop w.length else l
theorem trim_app (w l:List Int):trimL w (w++l)=l:=by
 unfold trimL
 rw [if_pos (List.prefix_append w l),List.drop_left]
theorem trim_len (w l:List Int):(trimL w l).length≤l.length:=by
 unfold trimL
 split
 ·rw [List.length_drop]; omega
 ·exact Nat.le_refl _
theorem trim_byt {w l:List Int} (h:byt l):byt (trimL w l):=by
 unfold trimL
 split
 ·exact byt_drop h _
 ·exact h
theorem trim_eq (l:List Int) (hb:byt l) (p:ByteArray):strings_TrimPrefix (bstr l) p=some (bstr (trimL (sbytes p) l)):=by
 unfold strings_TrimPrefix internal_stringslite_TrimPrefix
 have h:=hasPrefix_eq (bstr l) p
 rw [sbytes_bstr hb] at h
 unfold trimL
 by_cases hp:sbytes p <+: l
 ·rw [if_pos hp]
  rw [decide_eq_true hp] at h
  have hle:=hp.length_le
  rw [sbytes_len] at hle
  have hs:=sub_of (s:=bstr l) (a:=p.size) (b:=(bstr l).size) (by rw [bstr_size]; exact hle) (Nat.le_refl _)
  rw [sbytes_bstr hb,List.take_of_length_le (by rw [List.length_drop,bstr_size]; exact Nat.le_refl _)] at hs
  rw [sbytes_len]
  exact bnd (bnd h (cnd_t rfl (bnd hs rfl))) rfl
 ·rw [if_neg hp]
  rw [decide_eq_false hp] at h
  exact bnd (bnd h (cnd_f rfl rfl)) rfl
def parD (l:List Int):T_Path:=(parL l).getD noP
theorem pars_eq (l:List Int) (hb:byt l) (hl:l.length≤32000):∃ e,path_Parse (bstr l)=some (parD l,e):=by
 have h:=parse_eq (bstr l) (by rw [bstr_size]; omega)
 rw [sbytes_bstr hb] at h
 unfold parD
 cases hp:parL l with
 | none=>rw [hp] at h; exact ⟨5,h⟩
 | some p=>rw [hp] at h; exact ⟨0,h⟩
theorem sm_of_txt {p:T_Path} {l:List Int} (h:txtL p=l) (hp:patB p=true) (hl:l.length≤32000):Sm p:=by
 subst h
 unfold txtL at hl
 unfold patB at hp
 cases hn:p.Null
 ·rw [hn] at hl
  simp only [cond_false,List.length_cons,List.length_append,sbytes_len] at hl
  exact ⟨by omega,by omega⟩
 ·rw [hn] at hp
  simp only [cond_true,Bool.and_eq_true,List.isEmpty_iff] at hp
  have h1:=congrArg List.length hp.1
  have h2:=congrArg List.length hp.2
  rw [sbytes_len] at h1 h2
  simp only [List.length_nil] at h1 h2
  exact ⟨by omega,by omega⟩
theorem par_sm {l:List Int} (hb:byt l) (hl:l.length≤32000):Sm (parD l):=by
 unfold parD
 cases hp:parL l with
 | none=>exact ⟨by simp [noP,e0,ByteArray.size],by simp [noP,e0,ByteArray.size]⟩
 | some p =>
  obtain ⟨h1,h2⟩:=txt_par hb hp
  exact sm_of_txt h1 h2 hl
def candL (ls:List (List Int)):ByteArray×T_Path×T_Path:=(bstr (trimL q13L (ls.getD 12 [])),parD (trimL q2L (ls.getD 1 [])),parD (trimL q15L (ls.getD 14 [])))
def repOf (c:ByteArray×T_Path×T_Path):List Int:=jn (repL (sbytes c.1) (txtL c.2.1) (txtL c.2.2))
theorem equal_eq {a b:List Int} (ha:byt a) (hb:byt b):bytes_Equal a b=some (decide (a=b)):=by
 unfold bytes_Equal
 refine bnd rfl (bnd rfl ?_)
 rw [toList_beq]
 congr 1
 by_cases h:a=b
 ·subst h; simp
 ·rw [decide_eq_false h]
  exact decide_eq_false fun e=>h (by rw [← sbytes_bstr ha,← sbytes_bstr hb,e])
theorem read_core {b:List Int} {ls:List (List Int)} {r:List Int} (H:Lns b ls r) (hb:byt b) (hl:b.length≤31000) :
  report_Read b=some (if 14<ls.length∧rg (candL ls).1 (candL ls).2.1 (candL ls).2.2=true∧repOf (candL ls)=b then ((candL ls).1,(candL ls).2.1,(candL ls).2.2,0) else (e0,noP,noP,5)):=by
 unfold report_Read
 refine bnd (lines14 H hb (by omega)) ?_
 by_cases h14:ls.length≤14
 ·rw [if_neg (fun h=>by omega)]
  exact cnd_t (decide_eq_true (by omega)) rfl
 have hlb:=byt_line H hb
 have hjn:=lns_join H
 have hbl:∀ i (h:i<ls.length),ls[i].length≤31000:=fun i h=>by
  have h1:=tot_mem (List.getElem_mem h)
  have h2:=congrArg List.length hjn
  rw [List.length_append,jn_len] at h2
  omega
 have g:∀ i (h:i<ls.length),getO ls i=some ls[i]:=fun i h=>by simp [getO,h]
 have gd:∀ i (h:i<ls.length),ls.getD i []=ls[i]:=fun i h=>by simp [List.getD,h]
 have hc:candL ls=(bstr (trimL q13L ls[12]),parD (trimL q2L ls[1]),parD (trimL q15L ls[14])):=by
  unfold candL
  rw [gd 12 (by omega),gd 1 (by omega),gd 14 (by omega)]
 rw [hc]
 have b12:=hlb _ (List.getElem_mem (show 12<ls.length by omega))
 have b1:=hlb _ (List.getElem_mem (show 1<ls.length by omega))
 have b14:=hlb _ (List.getElem_mem (show 14<ls.length by omega))
 have l12:=hbl 12 (by omega)
 have l1:=hbl 1 (by omega)
 have l14:=hbl 14 (by omega)
 have t12:=trim_len q13L ls[12]
 have t1:=trim_len q2L ls[1]
 have t14:=trim_len q15L ls[14]
 obtain ⟨e1,hp1⟩:=pars_eq (trimL q2L ls[1]) (trim_byt b1) (by omega)
 obtain ⟨e2,hp2⟩:=pars_eq (trimL q15L ls[14]) (trim_byt b14) (by omega)
 have hbd:=build_eq (bstr (trimL q13L ls[12])) (parD (trimL q2L ls[1])) (parD (trimL q15L ls[14])) (by rw [bstr_size]; omega) (par_sm (trim_byt b1) (by omega)) (par_sm (trim_byt b14) (by omega))
 have ix:∀ n:Nat,n<ls.length→ixO (n:Int) ls.length=some n:=fun n h=>ixO_of h
 refine cnd_f (decide_eq_false (by omega)) (bnd (ix 12 (by omega)) (bnd (g 12 (by omega)) (bnd rfl (bnd (trim_eq _ b12 q13) (bnd (ix 1 (by omega)) (bnd (g 1 (by omega)) (bnd rfl (bnd (trim_eq _ b1 q2) (bnd hp1 (bnd (ix 14 (by omega)) (bnd (g 14 (by omega)) (bnd rfl (bnd (trim_eq _ b14 q15) (bnd hp2 (bnd hbd ?_)))))))))))))))
 by_cases hrg:rg (bstr (trimL q13L ls[12])) (parD (trimL q2L ls[1])) (parD (trimL q15L ls[14]))=true
 ·rw [if_pos hrg]
  have hbt:byt (jn (repL (sbytes (bstr (trimL q13L ls[12]))) (txtL (parD (trimL q2L ls[1]))) (txtL (parD (trimL q15L ls[14]))))):=jn_byt (rep_byt (byt_sbytes _) (byt_txt _) (byt_txt _))
  by_cases he:repOf (bstr (trimL q13L ls[12]),parD (trimL q2L ls[1]),parD (trimL q15L ls[14]))=b
  ·rw [if_pos ⟨by omega,hrg,he⟩]
   refine bndL (s:=false) (cnd_f rfl (bnd (equal_eq hbt hb) (inl_of ?_))) (cnd_f rfl rfl)
   exact congrArg (fun x => !x) (decide_eq_true he)
  ·rw [if_neg (fun h=>he h.2.2)]
   refine bndL (s:=true) (cnd_f rfl (bnd (equal_eq hbt hb) (inl_of ?_))) (cnd_t rfl rfl)
   exact congrArg (fun x => !x) (decide_eq_false he)
 ·rw [if_neg hrg,if_neg (fun h=>hrg h.2.1)]
  exact bndL (s:=true) (cnd_t rfl rfl) (cnd_t rfl rfl)
theorem rg_of {site:ByteArray} {s p:T_Path} (h:rg site s p=true):domB (sbytes site)=true∧patB s=true∧s.Null=false∧patB p=true∧p.Null=false:=by
 simp only [rg,Bool.and_eq_true,Bool.not_eq_true'] at h
 exact ⟨h.1,h.2.1,h.2.2.1,h.2.2.2.1,h.2.2.2.2⟩
theorem cand_rep {site:ByteArray} {s p:T_Path} (h:rg site s p=true):candL (repL (sbytes site) (txtL s) (txtL p))=(site,s,p):=by
 obtain ⟨_,h2,_,h4,_⟩:=rg_of h
 have e12:(repL (sbytes site) (txtL s) (txtL p)).getD 12 []=q13L++sbytes site:=rfl
 have e1:(repL (sbytes site) (txtL s) (txtL p)).getD 1 []=q2L++txtL s:=rfl
 have e14:(repL (sbytes site) (txtL s) (txtL p)).getD 14 []=q15L++txtL p:=rfl
 unfold candL
 rw [e12,e1,e14,trim_app,trim_app,trim_app,bstr_sbytes]
 unfold parD
 rw [par_txt s h2,par_txt p h4]
 rfl
theorem pat_txt {p:T_Path} (h:patB p=true) (hn:p.Null=false):txtL p=60::(sbytes p.Local++64::(sbytes p.Domain++[62]))∧locB (sbytes p.Local)=true∧domB (sbytes p.Domain)=true:=by
 unfold patB at h
 rw [hn] at h
 simp only [cond_false,Bool.and_eq_true] at h
 refine ⟨by unfold txtL; rw [hn]; rfl,h.1,h.2⟩
theorem cln_loc {l:List Int} (h:locB l=true):cln l:=fun x hx=>by
 refine ⟨fun e => ?_,fun e => ?_⟩
 ·subst e; exact loc_no (c:=13) (by decide) h hx
 ·subst e; exact loc_no (c:=10) (by decide) h hx
theorem cln_dom' {l:List Int} (h:domB l=true):cln l:=fun x hx=>by
 refine ⟨fun e => ?_,fun e => ?_⟩
 ·subst e; exact dom_no (c:=13) (by decide) h hx
 ·subst e; exact dom_no (c:=10) (by decide) h hx
theorem cln_txt {p:T_Path} (h:patB p=true) (hn:p.Null=false):cln (txtL p):=by
 obtain ⟨e,h1,h2⟩:=pat_txt h hn
 rw [e]
 have:(60:Int)::(sbytes p.Local++64::(sbytes p.Domain++[62]))=[60]++(sbytes p.Local++([64]++(sbytes p.Domain++[62]))):=rfl
 rw [this]
 exact cln_app (cln1 (by decide) (by decide)) (cln_app (cln_loc h1) (cln_app (cln1 (by decide) (by decide)) (cln_app (cln_dom' h2) (cln1 (by decide) (by decide)))))
theorem rep_all {site:ByteArray} {s p:T_Path} (h:rg site s p=true):(∀ l∈repL (sbytes site) (txtL s) (txtL p),cln l)∧(∀ l∈repL (sbytes site) (txtL s) (txtL p),byt l):=by
 obtain ⟨h1,h2,h3,h4,h5⟩:=rg_of h
 exact ⟨rep_cln (cln_dom' h1) (cln_txt h2 h3) (cln_txt h4 h5),rep_byt (byt_sbytes _) (byt_txt _) (byt_txt _)⟩
theorem read_yes {site:ByteArray} {s p:T_Path} (h:rg site s p=true) (hl:(repOf (site,s,p)).length≤31000):report_Read (repOf (site,s,p))=some (site,s,p,0):=by
 obtain ⟨hc,hb⟩:=rep_all h
 have hx:=read_core (lns_jn hc) (jn_byt hb) hl
 rw [cand_rep h,if_pos ⟨by rw [rep_len]; omega,h,rfl⟩] at hx
 exact hx
theorem read_no {b:List Int} (hb:byt b) (hl:b.length≤31000) (h:∀ site s p,rg site s p=true→repOf (site,s,p)≠b):report_Read b=some (e0,noP,noP,5):=by
 obtain ⟨ls,r,H⟩:=lns_ex b.length b (Nat.le_refl _)
 rw [read_core H hb hl,if_neg (fun hc=>h _ _ _ hc.2.1 hc.2.2)]
def rlS (b:List Int):(((List (List Int))×Int×Int))→Option (((List (List Int))×Int×Int)⊕(((List (List Int)))⊕(List (List Int)))):=(fun ((s14,s15,s16):(List (List Int))×Int×Int) =>
 cond ((decide (0≤s16)))
  ((sliO b s15 s16).bind fun v3 =>
  (wherrykeep_Twin v3).bind fun v4 =>
  (appO 24 s14 [v4]).bind fun v7 =>
  (some (IntKind.i64.wrap (s16+2))).bind fun v8 =>
  (wherryref11_end b v8).bind fun v9 =>
  some (.inl (v7,v8,v9)))
  (some (.inr (.inl s14))))
def rrS (v2 v4 v7 v8 v10:ByteArray):((ByteArray×Int))→Option ((ByteArray×Int)⊕((ByteArray)⊕(List Int))):=(fun ((s36,s37):ByteArray×Int) =>
 cond ((decide (s37<(((xsB v2 v4 v7 v8 v10).length:Int)))))
  ((ixO s37 (xsB v2 v4 v7 v8 v10).length).bind fun v12 =>
  (getO (xsB v2 v4 v7 v8 v10) v12).bind fun v13 =>
  (catO s36 v13).bind fun v14 =>
  (catO v14 (⟨#[13,10]⟩:ByteArray)).bind fun v15 =>
  (some (IntKind.i64.wrap (s37+1))).bind fun v16 =>
  some (.inl (v15,v16)))
  (some (.inr (.inl s36))))
def endO (c:List Int) (p:Nat):Int:=match idx2 c with | none => -1 | some e=>((p+e:Nat):Int)
theorem rl_loop (b:List Int) (hl:b.length<1000000):∀ {c:List Int} {ls:List (List Int)} {r:List Int} (H:Lns c ls r) (p:Nat) (acc:List (List Int)) (fuel:Nat),b.drop p=c→p≤b.length→acc.length≤p→ls.length<fuel →
  loopF (rlS b) fuel (acc,(p:Int),endO c p)=some (.inl (acc++ls)):=by
 intro c ls r H
 induction H with
 | nil h =>
  intro p acc fuel hd hp ha hf
  obtain ⟨k,rfl⟩:∃ k,fuel=k+1:=⟨fuel-1,by simp at hf; omega⟩
  rw [show endO _ p = -1 from by unfold endO; rw [h],List.append_nil]
  exact loop_exit rfl
 | @cons c e ls r h t ih =>
  intro p acc fuel hd hp ha hf
  obtain ⟨k,rfl⟩:∃ k,fuel=k+1:=⟨fuel-1,by simp at hf; omega⟩
  have hs:=idx2_some h
  have hcl:c.length=b.length-p:=by rw [← hd,List.length_drop]
  have he:endO c p=((p+e:Nat):Int):=by unfold endO; rw [h]
  rw [he]
  have hsl:=sli_nat b (a:=p) (b:=p+e) (by omega) (by omega)
  rw [hd,show p+e-p=e from by omega] at hsl
  have hdd:b.drop (p+e+2)=c.drop (e+2):=by rw [← hd,List.drop_drop]; congr 1
  have hw:IntKind.i64.wrap (((p+e:Nat):Int)+2)=((p+e+2:Nat):Int):=by rw [wrap_i64 (by omega) (by omega)]; simp
  have hend:=end11 b (by omega) (p+e+2) (by omega)
  rw [hdd] at hend
  have ih2:=ih (p+e+2) (acc++[c.take e]) k hdd (by omega) (by simp; omega) (by simp at hf; omega)
  have hcat:acc++c.take e::ls=(acc++[c.take e])++ls:=by simp
  rw [hcat,← ih2]
  refine loop_next (bnd hsl (bnd (twin15 (c.take e) (by rw [List.length_take]; omega)) (bnd (app_of (k:=24) (l:=acc) (m:=[c.take e]) (by simp; omega) (by simp; omega)) (bnd (congrArg some hw) (bnd hend ?_)))))
  rfl
theorem lns_short {c:List Int} {ls:List (List Int)} {r:List Int} (H:Lns c ls r):ls.length≤c.length:=by
 have:=congrArg List.length (lns_join H)
 rw [List.length_append,jn_len] at this
 have:=len_tot15 ls
 omega
theorem rlines_eq {b:List Int} {ls:List (List Int)} {r:List Int} (H:Lns b ls r) (hl:b.length<1000000):wherryref11_Lines b=some ls:=by
 unfold wherryref11_Lines
 have h0:=end11 b (by omega) 0 (by omega)
 rw [List.drop_zero] at h0
 have hsh:=lns_short H
 have h1:=rl_loop b hl H 0 [] BIG (by simp) (by omega) (by simp) (by simp only [BIG]; omega)
 refine bnd h0 (bndL (s:=ls) ?_ rfl)
 exact h1
theorem rr_loop (v2 v4 v7 v8 v10:ByteArray) (hl:tot ((xsB v2 v4 v7 v8 v10).map sbytes)<10000000):loopF (rrS v2 v4 v7 v8 v10) BIG (((⟨#[]⟩:ByteArray),0))=some (.inl (bstr (jn ((xsB v2 v4 v7 v8 v10).map sbytes)))):=by
 obtain ⟨X,hX⟩:∃ X,X=xsB v2 v4 v7 v8 v10:=⟨_,rfl⟩
 have hlen:X.length=18:=by rw [hX]; rfl
 rw [← hX] at hl ⊢
 have hby:∀ k,byt (jn ((X.take k).map sbytes)):=fun k=>jn_byt (fun l h=>by
  obtain ⟨s,_,rfl⟩:=List.mem_map.1 h
  exact byt_sbytes s)
 have htk:∀ k,tot ((X.take k).map sbytes)≤tot (X.map sbytes):=fun k=>by
  have:tot (X.map sbytes)=tot ((X.take k).map sbytes)+tot ((X.drop k).map sbytes):=by rw [← tot_app,← List.map_append,List.take_append_drop]
  omega
 have h:=loop_from (f:=rrS v2 v4 v7 v8 v10) (fun k=>(bstr (jn ((X.take k).map sbytes)),(k:Int))) X.length BIG (s:=(bstr (jn []),0)) (o := .inl (bstr (jn (X.map sbytes)))) rfl (by simp only [BIG]; omega) (fun k hk => ?_) ?_
 ·exact h
 ·have hgk:getO (xsB v2 v4 v7 v8 v10) k=some X[k]:=by rw [← hX]; simp [getO,hk]
  have hixk:ixO (k:Int) (xsB v2 v4 v7 v8 v10).length=some k:=by rw [← hX]; exact ixO_of hk
  have hdk:decide ((k:Int)<((xsB v2 v4 v7 v8 v10).length:Int))=true:=by rw [← hX]; exact decide_eq_true (by omega)
  have hk1:=htk (k+1)
  rw [List.take_succ_eq_append_getElem hk,List.map_append,tot_app] at hk1
  simp only [List.map_cons,List.map_nil,tot] at hk1
  have hkk:(sbytes X[k]).length≤10000000:=by omega
  have hk0:=htk k
  have hjl:(jn ((X.take k).map sbytes)).length≤10000000:=by rw [jn_len]; omega
  have c1:catO (bstr (jn ((X.take k).map sbytes))) X[k]=some (bstr (jn ((X.take k).map sbytes)++sbytes X[k])):=catL (sbytes_bstr (hby k)) rfl (by omega)
  have c2:catO (bstr (jn ((X.take k).map sbytes)++sbytes X[k])) (⟨#[13,10]⟩:ByteArray)=some (bstr ((jn ((X.take k).map sbytes)++sbytes X[k])++[13,10])):=catL (sbytes_bstr (byt_app (hby k) (byt_sbytes _))) rfl (by rw [List.length_append]; simp only [List.length_cons,List.length_nil]; omega)
  refine cnd_t hdk (bnd hixk (bnd hgk (bnd c1 (bnd c2 (bnd (congrArg some (wrap_succ (n:=k) (by omega))) ?_)))))
  rw [List.take_succ_eq_append_getElem hk,List.map_append,jn_app]
  simp only [List.map_cons,List.map_nil,jn,List.append_assoc]
 ·refine cnd_f (by rw [← hX]; exact decide_eq_false (by omega)) ?_
  rw [List.take_length]
theorem rbuild_eq (site:ByteArray) (s p:T_Path) (h0:site.size≤32000) (hs:Sm s) (hp:Sm p):wherryref11_Report site s p=some (repOf (site,s,p)):=by
 have hS:=byt_sbytes site
 have hP:=byt_txt s
 have hQ:=byt_txt p
 have lS:(sbytes site).length≤32000:=by rw [sbytes_len]; exact h0
 have lP:=txtR_len hs
 have lQ:=txtR_len hp
 have b1:sbytes (bstr (q1L++sbytes site))=q1L++sbytes site:=sbytes_bstr (byt_app (q_byt _ _ q1_sb) hS)
 have b9:sbytes (bstr (q9L++txtL p))=q9L++txtL p:=sbytes_bstr (byt_app (q_byt _ _ q9_sb) hQ)
 unfold wherryref11_Report
 refine bnd (cat2 q1_sb rfl (by decide) (by omega)) (bnd (cat2 b1 sb62 (by rw [List.length_append,q1_len]; omega) (by decide)) (bnd (rtext_eq s hs.small) (bnd (cat2 q2_sb (sbytes_bstr hP) (by decide) (by omega)) (bnd (rtext_eq p hp.small) (bnd (cat2 q9_sb (sbytes_bstr hQ) (by decide) (by omega)) (bnd (cat2 b9 sb46 (by rw [List.length_append,q9_len]; omega) (by decide)) (bnd (cat2 q13_sb rfl (by decide) (by omega)) (bnd (rtext_eq p hp.small) (bnd (cat2 q15_sb (sbytes_bstr hQ) (by decide) (by omega)) ?_)))))))))
 rw [List.append_assoc,List.append_assoc]
 have hx:=xs_sb (sbytes site) (txtL s) (txtL p) hS hP hQ
 have hr:=rr_loop (bstr (q1L++(sbytes site++[62]))) (bstr (q2L++txtL s)) (bstr (q9L++(txtL p++[46]))) (bstr (q13L++sbytes site)) (bstr (q15L++txtL p)) (by rw [hx,rep_tot]; omega)
 rw [hx] at hr
 refine bndL hr (bnd rfl ?_)
 rw [sbytes_bstr (jn_byt (rep_byt hS hP hQ))]
 rfl
theorem right_eq (site:ByteArray) (s p:T_Path):wherryref11_RightReport site s p=some (rg site s p):=by
 unfold wherryref11_RightReport rg
 cases h1:domB (sbytes site)
 ·exact bndL (s:=false) (bnd (rdom_eq site) (cnd_f h1 rfl)) rfl
 cases h2:patB s
 ·exact bndL (s:=false) (bnd (rdom_eq site) (cnd_t h1 (bnd (rpath_eq s) (cnd_f h2 rfl)))) rfl
 cases h3:patB p
 ·refine bndL (s:=false) (bnd (rdom_eq site) (cnd_t h1 (bnd (rpath_eq s) (cnd_t h2 (bnd (rpath_eq p) (cnd_f h3 rfl)))))) ?_
  simp
 ·refine bndL (s := !s.Null && !p.Null) (bnd (rdom_eq site) (cnd_t h1 (bnd (rpath_eq s) (cnd_t h2 (bnd (rpath_eq p) (cnd_t h3 ?_)))))) (by simp)
  cases s.Null <;> rfl
theorem rpars_eq (l:List Int) (hb:byt l) (hl:l.length≤32000):∃ e,wherryref11_Parse (bstr l)=some (parD l,e)∧(∀ p,parL l=some p→e=true):=by
 have h:=rparse_eq (bstr l) (by rw [bstr_size]; omega)
 rw [sbytes_bstr hb] at h
 unfold parD
 cases hp:parL l with
 | none=>rw [hp] at h; exact ⟨false,h,fun p e=>by cases e⟩
 | some p=>rw [hp] at h; exact ⟨true,h,fun p e=>rfl⟩
theorem rbegins (l:List Int) (hb:byt l) (hl:l.length≤32000) (w:ByteArray) (hw:lowL (sbytes w)=sbytes w):∃ t:List Int,byt t∧t.length≤32000∧∃ e,wherryref11_begins (bstr l) w=some (bstr t,e)∧(∀ k m,l=k++m→lowL k=sbytes w→t=m∧e=true):=by
 have h:=begins_eq (bstr l) w (by rw [bstr_size]; omega) hw
 rw [sbytes_bstr hb] at h
 cases hp:pfx (sbytes w) l with
 | none =>
  rw [hp] at h
  refine ⟨[],byt_nil,by simp,false,h,fun k m e1 e2 => ?_⟩
  subst e1
  have hk:k.length=(sbytes w).length:=by rw [← e2]; simp [lowL]
  unfold pfx at hp
  rw [if_pos ⟨by rw [List.length_append]; omega,by rw [← hk,List.take_left,e2,hw]⟩] at hp
  cases hp
 | some t =>
  rw [hp] at h
  have ht:t=l.drop (sbytes w).length:=by
   unfold pfx at hp
   split at hp
   ·exact (Option.some.inj hp).symm
   ·cases hp
  refine ⟨t,by rw [ht]; exact byt_drop hb _,by rw [ht,List.length_drop]; omega,true,h,fun k m e1 e2 => ?_⟩
  have hk:k.length=(sbytes w).length:=by rw [← e2]; simp [lowL]
  subst e1
  exact ⟨by rw [ht,← hk,List.drop_left],rfl⟩
theorem low13:lowL q13L=sbytes (⟨#[114,101,112,111,114,116,105,110,103,45,109,116,97,58,32,100,110,115,59,32]⟩:ByteArray):=by kernel_rfl
theorem low2:lowL q2L=sbytes (⟨#[116,111,58,32]⟩:ByteArray):=by kernel_rfl
theorem low15:lowL q15L=sbytes (⟨#[102,105,110,97,108,45,114,101,99,105,112,105,101,110,116,58,32,114,102,99,56,50,50,59,32]⟩:ByteArray):=by kernel_rfl
theorem keepB (a b:List Int) (hl:a.length<4294967296):wherrykeep_Bytes a b=some (decide (a=b)):=keepBytes_eq a b hl
theorem rread_core {b:List Int} {ls:List (List Int)} {r:List Int} (H:Lns b ls r) (hb:byt b) (hl:b.length≤31000) :
  (wherryref11_ReadReport b=some (e0,noP,noP,false))∨∃ site s p,rg site s p=true∧repOf (site,s,p)=b∧wherryref11_ReadReport b=some (site,s,p,true):=by
 unfold wherryref11_ReadReport
 by_cases h18:ls.length=18
 case neg =>
  refine .inl (bnd (rlines_eq H (by omega)) (cnd_t ?_ rfl))
  simp only [bne_iff_ne,ne_eq]; omega
 have hlb:=byt_line H hb
 have hjn:=lns_join H
 have hbl:∀ i (h:i<ls.length),ls[i].length≤31000:=fun i h=>by
  have h1:=tot_mem (List.getElem_mem h)
  have h2:=congrArg List.length hjn
  rw [List.length_append,jn_len] at h2
  omega
 have g:∀ i (h:i<ls.length),getO ls i=some ls[i]:=fun i h=>by simp [getO,h]
 have ix:∀ n:Nat,n<ls.length→ixO (n:Int) ls.length=some n:=fun n h=>ixO_of h
 obtain ⟨t12,bt12,lt12,e12,hb12,_⟩:=rbegins ls[12] (hlb _ (List.getElem_mem (by omega))) (by have:=hbl 12 (by omega); omega) (⟨#[114,101,112,111,114,116,105,110,103,45,109,116,97,58,32,100,110,115,59,32]⟩:ByteArray) (by kernel_rfl)
 obtain ⟨t1,bt1,lt1,e1,hb1,_⟩:=rbegins ls[1] (hlb _ (List.getElem_mem (by omega))) (by have:=hbl 1 (by omega); omega) (⟨#[116,111,58,32]⟩:ByteArray) (by kernel_rfl)
 obtain ⟨t14,bt14,lt14,e14,hb14,_⟩:=rbegins ls[14] (hlb _ (List.getElem_mem (by omega))) (by have:=hbl 14 (by omega); omega) (⟨#[102,105,110,97,108,45,114,101,99,105,112,105,101,110,116,58,32,114,102,99,56,50,50,59,32]⟩:ByteArray) (by kernel_rfl)
 obtain ⟨f1,hf1,_⟩:=rpars_eq t1 bt1 lt1
 obtain ⟨f14,hf14,_⟩:=rpars_eq t14 bt14 lt14
 have hrb:=rbuild_eq (bstr t12) (parD t1) (parD t14) (by rw [bstr_size]; exact lt12) (par_sm bt1 lt1) (par_sm bt14 lt14)
 have hne:((ls.length:Int) != 18)=false:=by simp [h18]
 by_cases hall:e12=true∧e1=true∧e14=true∧f1=true∧f14=true∧rg (bstr t12) (parD t1) (parD t14)=true∧repOf (bstr t12,parD t1,parD t14)=b
 ·obtain ⟨a1,a2,a3,a4,a5,a6,a7⟩:=hall
  subst a1; subst a2; subst a3; subst a4; subst a5
  refine .inr ⟨bstr t12,parD t1,parD t14,a6,a7,?_⟩
  refine bnd (rlines_eq H (by omega)) (cnd_f hne (bnd (ix 12 (by omega)) (bnd (g 12 (by omega)) (bnd rfl (bnd hb12 (bnd (ix 1 (by omega)) (bnd (g 1 (by omega)) (bnd rfl (bnd hb1 (bnd (ix 14 (by omega)) (bnd (g 14 (by omega)) (bnd rfl (bnd hb14 (bnd hf1 (bnd hf14 ?_)))))))))))))))
  refine bndL (s:=false) (cnd_f rfl (cnd_f rfl (cnd_f rfl (cnd_f rfl (cnd_f rfl (bnd (right_eq _ _ _) (cnd_f (by dsimp only; rw [a6]; rfl) (bnd hrb (bnd (keepB _ _ (by rw [a7]; omega)) (inl_of ?_))))))))) ) (cnd_f rfl rfl)
  exact congrArg (fun x => !x) (decide_eq_true a7)
 ·refine .inl ?_
  refine bnd (rlines_eq H (by omega)) (cnd_f hne (bnd (ix 12 (by omega)) (bnd (g 12 (by omega)) (bnd rfl (bnd hb12 (bnd (ix 1 (by omega)) (bnd (g 1 (by omega)) (bnd rfl (bnd hb1 (bnd (ix 14 (by omega)) (bnd (g 14 (by omega)) (bnd rfl (bnd hb14 (bnd hf1 (bnd hf14 ?_)))))))))))))))
  refine bndL (s:=true) ?_ (cnd_t rfl rfl)
  cases e12
  ·exact cnd_t rfl rfl
  refine cnd_f rfl ?_
  cases e1
  ·exact cnd_t rfl rfl
  refine cnd_f rfl ?_
  cases e14
  ·exact cnd_t rfl rfl
  refine cnd_f rfl ?_
  cases f1
  ·exact cnd_t rfl rfl
  refine cnd_f rfl ?_
  cases f14
  ·exact cnd_t rfl rfl
  refine cnd_f rfl (bnd (right_eq _ _ _) ?_)
  cases hg:rg (bstr t12) (parD t1) (parD t14)
  ·exact cnd_t rfl rfl
  refine cnd_f rfl (bnd hrb (bnd (keepB _ _ ?_) (inl_of ?_)))
  ·have h1:=txtR_len (par_sm bt1 lt1)
   have h2:=txtR_len (par_sm bt14 lt14)
   show (jn (repL (sbytes (bstr t12)) (txtL (parD t1)) (txtL (parD t14)))).length<_
   rw [jn_len,rep_tot,sbytes_len,bstr_size]
   omega
  ·exact congrArg (fun x => !x) (decide_eq_false (fun h=>hall ⟨rfl,rfl,rfl,rfl,rfl,hg,h⟩))
theorem rread_yes {site:ByteArray} {s p:T_Path} (h:rg site s p=true) (hl:(repOf (site,s,p)).length≤31000) (h0:site.size≤32000) (hs:Sm s) (hp:Sm p):wherryref11_ReadReport (repOf (site,s,p))=some (site,s,p,true):=by
 obtain ⟨hc,hb⟩:=rep_all h
 obtain ⟨_,g2,_,g4,_⟩:=rg_of h
 have H:Lns (repOf (site,s,p)) (repL (sbytes site) (txtL s) (txtL p)) []:=lns_jn hc
 unfold wherryref11_ReadReport
 have hlt:∀ l∈repL (sbytes site) (txtL s) (txtL p),l.length≤32000:=fun l hm=>by
  have:=tot_mem hm
  have h2:(repOf (site,s,p)).length=tot (repL (sbytes site) (txtL s) (txtL p)):=jn_len _
  omega
 obtain ⟨t12,bt12,lt12,e12,hb12,k12⟩:=rbegins (q13L++sbytes site) (hb _ (by simp [repL])) (hlt _ (by simp [repL])) (⟨#[114,101,112,111,114,116,105,110,103,45,109,116,97,58,32,100,110,115,59,32]⟩:ByteArray) (by kernel_rfl)
 obtain ⟨t1,bt1,lt1,e1,hb1,k1⟩:=rbegins (q2L++txtL s) (hb _ (by simp [repL])) (hlt _ (by simp [repL])) (⟨#[116,111,58,32]⟩:ByteArray) (by kernel_rfl)
 obtain ⟨t14,bt14,lt14,e14,hb14,k14⟩:=rbegins (q15L++txtL p) (hb _ (by simp [repL])) (hlt _ (by simp [repL])) (⟨#[102,105,110,97,108,45,114,101,99,105,112,105,101,110,116,58,32,114,102,99,56,50,50,59,32]⟩:ByteArray) (by kernel_rfl)
 obtain ⟨z12,y12⟩:=k12 _ _ rfl low13
 obtain ⟨z1,y1⟩:=k1 _ _ rfl low2
 obtain ⟨z14,y14⟩:=k14 _ _ rfl low15
 subst z12; subst z1; subst z14; subst y12; subst y1; subst y14
 obtain ⟨f1,hf1,j1⟩:=rpars_eq (txtL s) bt1 lt1
 obtain ⟨f14,hf14,j14⟩:=rpars_eq (txtL p) bt14 lt14
 have p1:=par_txt s g2
 have p14:=par_txt p g4
 have y1:=j1 _ p1
 have y14:=j14 _ p14
 subst y1; subst y14
 have d1:parD (txtL s)=s:=by unfold parD; rw [p1]; rfl
 have d14:parD (txtL p)=p:=by unfold parD; rw [p14]; rfl
 rw [d1] at hf1; rw [d14] at hf14
 rw [bstr_sbytes] at hb12
 have ix:∀ n:Nat,n<18→ixO (n:Int) (repL (sbytes site) (txtL s) (txtL p)).length=some n:=fun n h=>ixO_of h
 refine bnd (rlines_eq H (by omega)) (cnd_f rfl (bnd (ix 12 (by omega)) (bnd rfl (bnd rfl (bnd hb12 (bnd (ix 1 (by omega)) (bnd rfl (bnd rfl (bnd hb1 (bnd (ix 14 (by omega)) (bnd rfl (bnd rfl (bnd hb14 (bnd hf1 (bnd hf14 ?_)))))))))))))))
 refine bndL (s:=false) (cnd_f rfl (cnd_f rfl (cnd_f rfl (cnd_f rfl (cnd_f rfl (bnd (right_eq _ _ _) (cnd_f (by dsimp only; rw [h]; rfl) (bnd (rbuild_eq site s p h0 hs hp) (bnd (keepB _ _ (by omega)) (inl_of ?_)))))))))) (cnd_f rfl rfl)
 exact congrArg (fun x => !x) (decide_eq_true rfl)
theorem sz_of {s:ByteArray} (h:wzS s):s.size≤140737488351232:=by simpa only [wzS,reachBytes] using h
theorem pz_of {p:T_Path} (h:T_Path.wz p):p.Local.size≤140737488351232∧p.Domain.size≤140737488351232:=⟨sz_of h.2.1,sz_of h.2.2⟩
theorem bz_of {l:List Int} (h:wzL 1 (wfI .u8) l):byt l:=byt_of_wf ⟨by have:=h.1; simp only [reachBytes] at this; simp only [maxLen]; omega,h.2⟩
theorem rg_sm {site:ByteArray} {s p:T_Path} (h:rg site s p=true):site.size≤255∧Sm s∧Sm p:=by
 obtain ⟨h1,h2,h3,h4,h5⟩:=rg_of h
 have a:=domB_len h1
 rw [sbytes_len] at a
 obtain ⟨_,b1,b2⟩:=pat_txt h2 h3
 obtain ⟨_,c1,c2⟩:=pat_txt h4 h5
 have b1:=locB_len b1; have b2:=domB_len b2; have c1:=locB_len c1; have c2:=domB_len c2
 rw [sbytes_len] at b1 b2 c1 c2
 exact ⟨a,⟨by omega,by omega⟩,⟨by omega,by omega⟩⟩
end Go.Abs.Sh
