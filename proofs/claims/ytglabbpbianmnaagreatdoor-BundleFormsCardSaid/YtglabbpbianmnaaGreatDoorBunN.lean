import Derived.Test.YtglabbpbianmnaaGreatDoorBunM
namespace Go.Abs.Sh
set_option linter.unusedVariables false
set_option linter.unusedSimpArgs false
set_option maxRecDepth 100000
theorem sb_no {c:Int} {P:Int→Bool} (hP:P c=false) {l:List Int} (h:l.all P=true):c ∉ l:=by
 intro hm
 have:=List.all_eq_true.1 h c hm
 rw [hP] at this
 cases this
theorem spl_all {P:List Int→Bool} {c:Int} (Q:Int→Bool) (hQ:Q c=true) (hPQ:∀ l,P l=true→l.all Q=true):∀ l,(spl c l).all P=true→l.all Q=true
 | [],_=>rfl
 | x::r,h=>by
  have hne:=spl_ne c r
  unfold spl at h
  by_cases hx:x=c
  ·rw [if_pos hx] at h
   simp only [List.all_cons,Bool.and_eq_true] at h
   rw [List.all_cons,hx,hQ,spl_all Q hQ hPQ r h.2]; rfl
  ·rw [if_neg hx] at h
   cases hs:spl c r with
   | nil=>exact absurd hs hne
   | cons a ps =>
    rw [hs] at h
    simp only [List.all_cons,Bool.and_eq_true] at h
    have h1:=hPQ _ h.1
    simp only [List.all_cons,Bool.and_eq_true] at h1
    have key:∀ (r:List Int) (a:List Int) (ps:List (List Int)),spl c r=a::ps→a.all Q=true→ps.all P=true→r.all Q=true:=by
     intro r
     induction r with
     | nil=>intros; rfl
     | cons y r ih =>
      intro a ps e ha hps
      unfold spl at e
      by_cases hy:y=c
      ·rw [if_pos hy] at e
       cases e
       cases hs2:spl c r with
       | nil=>exact absurd hs2 (spl_ne c r)
       | cons b qs =>
        rw [hs2] at hps
        simp only [List.all_cons,Bool.and_eq_true] at hps
        rw [List.all_cons,hy,hQ,ih b qs hs2 (hPQ _ hps.1) hps.2]; rfl
      ·rw [if_neg hy] at e
       cases hs2:spl c r with
       | nil=>exact absurd hs2 (spl_ne c r)
       | cons b qs =>
        rw [hs2] at e
        cases e
        simp only [List.all_cons,Bool.and_eq_true] at ha
        rw [List.all_cons,ha.1,ih b ps hs2 ha.2 hps]; rfl
    rw [List.all_cons,h1.1,key r a ps hs h1.2 h.2]; rfl
def atD (c:Int):Bool:=atB c||c==46
def lbD (c:Int):Bool:=lbB c||c==46
theorem loc_all {l:List Int} (h:locB l=true):l.all atD=true:=by
 unfold locB at h
 rw [Bool.and_eq_true] at h
 refine spl_all atD (by decide) (fun p hp => ?_) l h.2
 unfold atmB at hp
 rw [Bool.and_eq_true] at hp
 rw [List.all_eq_true] at *
 intro x hx
 unfold atD
 rw [hp.2 x hx]; rfl
theorem dom_all {l:List Int} (h:domB l=true):l.all lbD=true:=by
 unfold domB at h
 rw [Bool.and_eq_true] at h
 refine spl_all lbD (by decide) (fun p hp => ?_) l h.2
 unfold labB at hp
 simp only [Bool.and_eq_true] at hp
 have hp:True∧p.all lbB=true:=⟨trivial,hp.2.2.2.2⟩
 rw [List.all_eq_true] at *
 intro x hx
 unfold lbD
 rw [hp.2 x hx]; rfl
theorem loc_no {c:Int} (hc:atD c=false) {l:List Int} (h:locB l=true):c ∉ l:=sb_no hc (loc_all h)
theorem dom_no {c:Int} (hc:lbD c=false) {l:List Int} (h:domB l=true):c ∉ l:=sb_no hc (dom_all h)
theorem locB_len {l:List Int} (h:locB l=true):l.length≤64:=by
 unfold locB at h; rw [Bool.and_eq_true] at h; simpa using h.1
theorem domB_len {l:List Int} (h:domB l=true):l.length≤255:=by
 unfold domB at h; rw [Bool.and_eq_true] at h; simpa using h.1
theorem par_txt (p:T_Path) (h:patB p=true):parL (txtL p)=some p:=by
 obtain ⟨n,l,d⟩:=p
 cases n
 ·have hh:=h
  unfold patB at h
  simp only [cond_false,Bool.and_eq_true] at h
  have n64:(64:Int) ∉ sbytes l:=loc_no (by decide) h.1
  unfold parL txtL
  simp only [cond_false]
  rw [if_neg (by intro e; have:=congrArg List.length e; simp at this; omega)]
  have e:(60::(sbytes l++64::(sbytes d++[62])):List Int)=60::((sbytes l++64::sbytes d)++[62]):=by simp
  rw [e,midL_mk]
  simp only [boxL,idx1_app n64]
  have e1:(sbytes l++64::sbytes d).take (sbytes l).length=sbytes l:=by simp
  have e2:(sbytes l++64::sbytes d).drop ((sbytes l).length+1)=sbytes d:=by
   rw [← List.drop_drop]; simp
  rw [e1,e2,bstr_sbytes,bstr_sbytes,if_pos hh]
 ·unfold patB at h
  simp only [cond_true,Bool.and_eq_true,List.isEmpty_iff] at h
  have e1:l=e0:=sbytes_inj (by rw [h.1]; rfl)
  have e2:d=e0:=sbytes_inj (by rw [h.2]; rfl)
  subst e1 e2
  rfl
/-! The end mark,and what stands ahead of it,of any bytes. -/
/-! A line that tells a path. -/
theorem txt13 {p:T_Path} (h:patB p=true):∀ x∈txtL p,x≠13:=by
 intro x hx
 unfold txtL at hx
 unfold patB at h
 cases hp:p.Null
 ·rw [hp] at h hx
  simp only [cond_false,Bool.and_eq_true] at h
  simp only [cond_false,List.mem_cons,List.mem_append,List.not_mem_nil,or_false] at hx
  rcases hx with rfl | hx | rfl | hx | rfl
  ·decide
  ·exact fun e=>loc_no (c:=13) (by decide) h.1 (e ▸ hx)
  ·decide
  ·exact fun e=>dom_no (c:=13) (by decide) h.2 (e ▸ hx)
  ·decide
 ·rw [hp] at hx
  simp only [cond_true,List.mem_cons,List.not_mem_nil,or_false] at hx
  rcases hx with rfl | rfl <;> decide
theorem pat_w {p:T_Path} (h:patB p=true):pW p≤319∧Small p:=by
 unfold patB at h
 cases hp:p.Null
 ·rw [hp] at h
  simp only [cond_false,Bool.and_eq_true] at h
  have h1:=locB_len h.1
  have h2:=domB_len h.2
  rw [sbytes_len] at h1 h2
  exact ⟨by simp only [pW]; omega,by omega,by omega⟩
 ·rw [hp] at h
  simp only [cond_true,Bool.and_eq_true,List.isEmpty_iff] at h
  have h1:=congrArg List.length h.1
  have h2:=congrArg List.length h.2
  rw [sbytes_len] at h1 h2
  simp only [List.length_nil] at h1 h2
  exact ⟨by simp only [pW]; omega,by omega,by omega⟩
theorem pp_yes {word:ByteArray} {w:List Int} {p:T_Path} {more:List Int} (hw:sbytes word=w) (h13:∀ x∈w,x≠13) (hwl:w.length≤100) (hp:patB p=true) (hm:byt more) (hl:more.length≤50000) :
  bundle_parsePath_ro (lnL w p++more) word=some (p,more,true):=by
 have hwb:byt w:=by rw [← hw]; exact byt_sbytes word
 obtain ⟨hpw,hps⟩:=pat_w hp
 have htl:=txt_len (p:=p) (by omega)
 have hline:byt (w++txtL p):=byt_app hwb (byt_txt p)
 have e:lnL w p++more=(w++txtL p)++13::10::more:=by simp [lnL]
 have hc:=cut_line (line:=w++txtL p) (c:=more) hline hm (by
  intro x hx
  rcases List.mem_append.1 hx with hx | hx
  ·exact h13 x hx
  ·exact txt13 hp x hx) (by simp only [List.length_append]; omega)
 have hcp:=cutPrefix_eq (bstr (w++txtL p)) word
 rw [sbytes_bstr hline,hw,if_pos (List.prefix_append w (txtL p))] at hcp
 have hsz:word.size=w.length:=by rw [← hw,sbytes_len]
 rw [hsz,List.drop_left] at hcp
 have hpa:=parse_eq (bstr (txtL p)) (by rw [bstr_size]; omega)
 rw [sbytes_bstr (byt_txt p),par_txt p hp] at hpa
 rw [e]
 unfold bundle_parsePath_ro
 exact bnd hc (bnd rfl (bnd hcp (bndL (s:=false) (cnd_f rfl rfl) (cnd_f rfl (bnd hpa rfl)))))
theorem pp_no {word:ByteArray} {w line more:List Int} (hw:sbytes word=w) (h13:∀ x∈line,x≠13) (hb:byt line) (hll:line.length≤1000) (hm:byt more) (hl:more.length≤50000) (hno:¬ w <+: line) :
  bundle_parsePath_ro (line++13::10::more) word=some (noP,[],false):=by
 have hc:=cut_line (line:=line) (c:=more) hb hm h13 (by omega)
 have hcp:=cutPrefix_eq (bstr line) word
 rw [sbytes_bstr hb,hw,if_neg hno] at hcp
 unfold bundle_parsePath_ro
 exact bnd hc (bnd rfl (bnd hcp (bndL (s:=true) (cnd_f rfl rfl) (cnd_t rfl rfl))))
end Go.Abs.Sh
