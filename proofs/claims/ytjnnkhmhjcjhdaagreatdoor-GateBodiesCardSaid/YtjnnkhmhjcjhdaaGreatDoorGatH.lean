import Derived.Test.YtjnnkhmhjcjhdaaGreatDoorGatG
namespace Go.Abs.Sh
set_option linter.unusedVariables false
set_option linter.unusedSimpArgs false
set_option maxRecDepth 100000
theorem Dy (q:List Int):su (q++[13,10,46,13,10])=true:=by
 unfold su
 rw [Bool.or_eq_true]
 refine .inr (decide_eq_true ⟨?_,?_⟩)
 ·rw [List.length_append]; exact Nat.le_add_left _ _
 ·rw [List.length_append]
  show (q++[13,10,46,13,10]).drop (q.length+5-5)=_
  rw [Nat.add_sub_cancel,List.drop_left]
theorem BX {c:Int} {b:List Int} (hc:c=13∨c=10) (hb:sG b) (t:List Int):fi ((120::c::121::b)++13::10::t)=some (120::c::121::b).length∧po true ((120::c::121::b)++13::10::t)=(120::c::121::b)++13::10::po true t:=by
 have h1:=mf (line:=b) (rest:=t) fun x hx=>(hb x hx).1
 have h2:=pm t hb
 have hcons:∀ (x y:Int) (l:List Int),¬ (x=13∧y=10)→fi (x::y::l)=(fi (y::l)).map (· + 1):=by
  intro x y l h
  show (if x=13∧(y::l).head? = some 10 then some 0 else (fi (y::l)).map (· + 1))=_
  rw [if_neg (fun e=>h ⟨e.1,by simpa using e.2⟩)]
 have h121:fi (121::(b++13::10::t))=some (b.length+1):=by
  show (if (121:Int)=13∧(b++13::10::t).head? = some 10 then some 0 else (fi (b++13::10::t)).map (· + 1))=_
  rw [if_neg (fun e=>absurd e.1 (by decide)),h1]; rfl
 refine ⟨?_,?_⟩
 ·show fi (120::c::121::(b++13::10::t))=_
  rw [hcons _ _ _ (by omega),hcons _ _ _ (by omega),h121]; rfl
 ·show po true (120::c::121::(b++13::10::t))=_
  rw [uH,if_neg (by decide),uH,if_neg (fun e=>by omega),uH,if_neg (fun e=>absurd e.1 (by decide))]
  rw [decide_eq_false (show ¬ (121:Int)=10 by decide),h2]; rfl
theorem sj (a b:List Int) (bare:Int) (hw:yC (qf .u8) a) (hw2:yC (qf .u8) b):ez a b bare=some true:=by
 have hba:=uM hw
 have hbb:=uM hw2
 unfold ez
 by_cases h3:300<(a.length:Int)
 ·exact fG (s:=true) (cQ (decide_eq_true h3) rfl) (cQ rfl rfl)
 by_cases h4:300<(b.length:Int)
 ·exact fG (s:=true) (cK (decide_eq_false h3) (cQ (decide_eq_true h4) rfl)) (cQ rfl rfl)
 rcases Ck a hba (by omega) with hbo | ⟨hbo,la,hca,hbl,rfl⟩
 ·exact fG (s:=true) (cK (decide_eq_false h3) (cK (decide_eq_false h4) (db hbo rfl))) (cQ rfl rfl)
 refine fG (s:=false) (cK (decide_eq_false h3) (cK (decide_eq_false h4) (db hbo rfl))) (cK rfl ?_)
 have hlb:=CM b (by omega)
 by_cases hcb:∀ i,i<b.length→(b[i]?.all tY)=true
 case neg=>rw [if_neg hcb] at hlb; exact DF (a:=true) hlb rfl
 rw [if_pos hcb] at hlb
 have cb:=DH hcb
 refine fG (s:=()) hlb ?_
 obtain ⟨q,hq⟩:∃ q,rA bare 2=some q:=⟨_,by unfold rA; rw [if_neg (by decide)]⟩
 obtain ⟨c,hc,hc2⟩:∃ c:Int,(c=13∨c=10)∧(cond (q==0) (some (.inl 13)) (some (.inl 10)):Option (Int⊕Bool))=some (.inl c):=by
  cases q==0
  ·exact ⟨10,.inr rfl,rfl⟩
  ·exact ⟨13,.inl rfl,rfl⟩
 refine fG (s:=c) (db hq hc2) ?_
 have hta:(jn la).length=jk la:=pP la
 have hcst:∀ l∈la.map nf,sG l:=fun l hl=>by
  obtain ⟨m,hm,rfl⟩:=List.mem_map.1 hl
  exact DS (hca m hm)
 obtain ⟨z,hz⟩:∃ z,z=120::c::121::b:=⟨_,rfl⟩
 have hzl:z.length=b.length+3:=by rw [hz]; rfl
 have hzb:kC z:=by
  intro x hx
  rw [hz] at hx
  simp only [List.mem_cons] at hx
  rcases hx with rfl | rfl | rfl | hx
  ·decide
  ·rcases hc with rfl | rfl <;> decide
  ·decide
  ·exact hbb x hx
 have hi:∀ t,fi (z++13::10::t)=some z.length:=fun t=>by rw [hz]; exact (BX hc cb t).1
 have hst:∀ t,po true (z++13::10::t)=z++13::10::po true t:=fun t=>by rw [hz]; exact (BX hc cb t).2
 have e1:jn (la.map nf++[z])=jn (la.map nf)++(z++13::10::[]):=by rw [rn]; rfl
 have e2:jn ((la.map nf++[z])++[[46]])=jn (la.map nf)++(z++13::10::[46,13,10]):=by rw [rn,e1]; simp [jn]
 have H1:uh (jn (la.map nf++[z])) (la.map nf++[z]) []:=by
  rw [e1]; exact Ad hcst (vu (hi []) (.nil rfl))
 have H2:uh (jn ((la.map nf++[z])++[[46]])) ((la.map nf++[z])++[[46]]) []:=by
  rw [e2,List.append_assoc]
  exact Ad hcst (vu (hi _) (vu (z:=[46]) (t:=[]) rfl (.nil rfl)))
 have hd:∀ l∈la.map nf++[z],l≠[46]:=fun l hl=>by
  rcases List.mem_append.1 hl with hl | hl
  ·obtain ⟨m,_,rfl⟩:=List.mem_map.1 hl
   exact DL m
  ·rw [List.mem_singleton.1 hl]
   intro e
   have:=congrArg List.length e
   rw [hzl] at this
   simp at this
 have hb:∀ l∈la.map nf++[z],kC l:=fun l hl=>by
  rcases List.mem_append.1 hl with hl | hl
  ·obtain ⟨m,hm,rfl⟩:=List.mem_map.1 hl
   exact DJ (hbl m hm)
  ·rw [List.mem_singleton.1 hl]; exact hzb
 have htt:=Aj la
 have ht:jk (la.map nf++[z])<80000:=by
  rw [qI]
  show jk (la.map nf)+(z.length+2+0)<_
  omega
 have hnc:¬ ∀ l∈la.map nf++[z],sG l:=fun h=>by
  have:=h z (by simp) c (by rw [hz]; simp)
  omega
 have hE:su (jn ((la.map nf++[z])++[[46]]))=true:=by
  have:jn ((la.map nf++[z])++[[46]])=(jn (la.map nf)++z)++[13,10,46,13,10]:=by rw [e2]; simp
  rw [this]; exact Dy _
 have hS:po true ((((jn la++[120,c])++[121])++b)++[13,10])=jn (la.map nf++[z]):=by
  have:(((jn la++[120,c])++[121])++b)++[13,10]=jn la++(z++13::10::[]):=by rw [hz]; simp
  rw [this,De la _ hca,hst,e1]; rfl
 have hfeed:=wR H1 H2 hd hb ht hnc hE
 have hSl:(jn (la.map nf++[z])).length=jk (la.map nf++[z]):=pP _
 have hst2:dF ((((jn la++[120,c])++[121])++b)++[13,10])=some (jn (la.map nf++[z])):=by
  rw [zt _ (by simp only [List.length_append,List.length_cons,List.length_nil]; omega),hS]
 refine db (Fl _ (by omega)) (db (ij (k:=1) (l:=jn la) (m:=[120,c]) ?_ ?_) (db (ij (k:=1) (l:=jn la++[120,c]) (m:=[121]) ?_ ?_) (db (ij (k:=1) (l:=(jn la++[120,c])++[121]) (m:=b) ?_ ?_) (db (ij (k:=1) (l:=((jn la++[120,c])++[121])++b) (m:=[13,10]) ?_ ?_) (db (x:=[46,13,10]) (by kernel_rfl) (db hst2 (db (ij (k:=1) (l:=[69,72,76,79,32,104,13,10,77,65,73,76,32,70,82,79,77,58,60,62,13,10,82,67,80,84,32,84,79,58,60,114,64,98,62,13,10,68,65,84,65,13,10]) (m:=jn (la.map nf++[z])) ?_ ?_) (db (ij (k:=1) (m:=[46,13,10]) ?_ ?_) (db (x:=Ge) rfl (db (x:=Io) rfl (db (ij (k:=1) (m:=[78,79,79,80,13,10]) ?_ ?_) ?_)))))))))))
 all_goals try (simp only [List.length_append,List.length_cons,List.length_nil]; omega)
 have hT:(([69,72,76,79,32,104,13,10,77,65,73,76,32,70,82,79,77,58,60,62,13,10,82,67,80,84,32,84,79,58,60,114,64,98,62,13,10,68,65,84,65,13,10]++jn (la.map nf++[z]))++[46,13,10])++[78,79,79,80,13,10]=[69,72,76,79,32,104,13,10,77,65,73,76,32,70,82,79,77,58,60,62,13,10,82,67,80,84,32,84,79,58,60,114,64,98,62,13,10,68,65,84,65,13,10]++(jn ((la.map nf++[z])++[[46]])++[78,79,79,80,13,10]):=by
  rw [rn (la.map nf++[z]) [[46]],List.append_assoc,List.append_assoc,List.append_assoc]; rfl
 rw [← hT] at hfeed
 exact db hfeed (fG (s:=true) (cQ rfl (cQ rfl (db (x:=4) rfl (db (x:=jS 554) rfl (cQ rfl (db (x:=4) rfl (db (x:=jS 554) rfl (cQ rfl (db (x:=5) rfl (db (x:=jS 250) rfl (cQ rfl (cQ rfl (cQ rfl (db EG rfl)))))))))))))) rfl)
end Go.Abs.Sh
