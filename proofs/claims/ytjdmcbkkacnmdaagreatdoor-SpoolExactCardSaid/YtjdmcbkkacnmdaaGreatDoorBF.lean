import Derived.Test.YtjdmcbkkacnmdaaGreatDoorBE
namespace Go.Abs
set_option linter.unusedVariables false
def tJ (N:List aO) (ys:List Operand) (avs:List AV):Prop :=
 ∀ (g:Gh) (V:bN→Value) (oN:List Nat) (a:Act) (w:World),(∀ t,V (.slot t)=a.tmps.getD t undef)→Es g V w N oN→Rs (cv w g.Imm (fun b=>g.Im b∨b∈oN)) V0 w avs (ys.map a.eval) []
theorem du {N:List aO}:tJ N [] []:=fun g V oN a w hv hN=>by simp [Rs]
theorem cM {N:List aO} {y:Operand} {ys:List Operand} {av:AV} {avs:List AV} (he:lx N y=av) (h:tJ N ys avs):tJ N (y::ys) (av::avs):=fun g V oN a w hv hN=>by
 simp only [List.map_cons,Rs]
 refine ⟨_,_,[],[],rfl,rfl,?_,h g V oN a w hv hN⟩
 rw [← he]
 exact vD (g:=g) (g':=cv w g.Imm (fun b=>g.Im b∨b∈oN)) rfl (fun b hb=>hb) hv hN y
theorem zW {A:Type} {z:Nat} {enc:A→List AV} (he:∀ x,(enc x).length=z) {l:List A} {vs:List Value} {i:Nat} {x:A} (hv:vs.length=((l.map enc).flatten).length) (h:aA l i=some x):(vs.drop (i * z)).take z=(List.range z).map fun j=>vs.getD (i * z+j) undef:=by
 apply List.ext_getElem?
 intro j
 rw [List.getElem?_take,List.getElem?_drop,List.getElem?_map]
 by_cases hj:j<z
 ·rw [if_pos hj,List.getElem?_range hj]
  exact cx he hv h hj
 ·rw [if_neg hj,List.getElem?_eq_none (by simpa using hj)]; rfl
section
variable {P:Program} {ty:TypeId} {pos:String} {aft:Array Edge} {gd:Option (Nat×Bool)}
theorem rL (N T G:List aO) (W:List bN) (d:Nat) (f:FuncId) {cal:Operand} (xs ys:List Operand) {args:Array Operand} {ats:Array TypeId} (avs posts:List AV) (res:AV) (hcal:rd N cal = .v (.func (.func f) #[] #[])) (hrun:∀ args w,(callFunc f args).run P w = .ok (.enter f args) w)
  (hargs:(xs++ys).toArray=args) (hx:tx (N++T) xs T=true) (hav:tJ N ys avs) (hf:Ax P f (T.map (·.2)++avs) posts res) (hpl:posts.length≤T.length) (hcl:bk res=true) (hclT:br (T.map (·.2))=true) (hclp:br posts=true)
  (hsh:tj res) (hshp:qd posts) (hdt:T.all (fun e => !Nat.beq e.1 d)=true) (hG:qb T posts++[(d,res)]=G) (hW:bN.slot d::tk (qb T posts)=W) :
  aY P ⟨some d,.call ⟨.value cal,args,ats⟩,ty,pos,aft,gd⟩ N T G W:=by
 subst hG hW hargs
 refine aY.core fun g V oN oT a w hd hp => ?_
 have hcv:=dD hp.val hp.esN hcal
 have hr:(execOp a.eval ⟨some d,.call ⟨.value cal,(xs++ys).toArray,ats⟩,ty,pos,aft,gd⟩).run P w = .ok (.enter f ((xs++ys).toArray.map a.eval)) w:=by
  simp [execOp,resolve,hcv,Deferred.ofValue,invoke,hrun]
 have hxe:=oW hp.val (bi.2 ⟨oN,oT,rfl,hp.esN,hp.esT⟩) hx
 have hR:Rs (cv w g.Imm (fun b=>g.Im b∨b∈oN)) V0 w (T.map (·.2)++avs) ((xs++ys).map a.eval) oT:=by
  rw [List.map_append,hxe]
  refine dj.2 ⟨_,_,oT,[],rfl,by simp,?_,?_⟩
  ·exact cn (g:=g) (g':=cv w g.Imm (fun b=>g.Im b∨b∈oN)) (fun _ h=>h) _ _ oT hclT (.inl fun b hb => .inl hb) (Cn hp.esT)
  ·exact hav g V oN a w hp.val hp.esN
 have hnd:=hp.nodup
 have hob:∀ b∈oT,b<w.heap.size∧¬ (g.Imm b∨g.Im b∨b∈oN):=by
  intro b hb
  have h1:=hp.own b (by simp [hb])
  refine ⟨h1.1,?_⟩
  rintro (h | h | h)
  ·exact h1.2 (.inl h)
  ·exact h1.2 (.inr h)
  ·exact (List.nodup_append.1 hnd).2.2 b h b hb rfl
 have hc:=hf g.Imm (fun b=>g.Im b∨b∈oN) w _ oT (fun b hb=>by
  rcases hb with hb | hb | hb
  ·exact hp.imm b (.inl hb)
  ·exact hp.imm b (.inr hb)
  ·exact (hp.own b (by simp [hb])).1) hR (List.nodup_append.1 hnd).2.1 hob
 have ea:((xs++ys).map a.eval).toArray=(xs++ys).toArray.map a.eval:=by simp
 rw [ea] at hc
 have hlt:d<g.n:=hd d rfl
 refine Yl.call hr (hc.mono ?_)
 rintro e' w' ⟨y,rfl,hchg,Imm',o,hI,hnew,hRr,hndo,hfr⟩
 have htake:((xs++ys).map a.eval).take posts.length=(T.map fun e=>V (.slot e.1)).take posts.length:=by
  rw [List.map_append,hxe,List.take_append_of_le_length (by simp [hpl])]
 simp only [htake,Rs] at hRr
 obtain ⟨y',hZ,o1,o2,hyv,rfl,hR1,hR2⟩:=hRr
 obtain ⟨rfl,rfl⟩:=List.cons.inj hyv
 let V1:bN→Value:=fun l=>match l with
  | .slot u=>if u=d then y else V (.slot u)
  | .cell u i=>if u=d then ks w' y i else if bN.cell u i∈tk (qb T posts) then ks w' (V (.slot u)) i else V (.cell u i)
 have hV1:∀ l,gK (.slot d::tk (qb T posts)) l=false→V1 l=V l:=by
  intro l hl
  simp only [gK,List.any_cons,Bool.or_eq_false_iff] at hl
  cases l with
  | slot u =>
   have:u≠d:=fun e=>by subst e; simp at hl
   simp [V1,this]
  | cell u i =>
   have h1:u≠d:=fun e=>by subst e; simp at hl
   have h2:bN.cell u i ∉ tk (qb T posts):=fun hm=>by
    have:=List.any_eq_false.1 hl.2 _ hm
    simp at this
   simp [V1,h1,h2]
 have hTd:∀ e∈T,e.1≠d:=fun e he hed=>by
  have:=List.all_eq_true.1 hdt e he
  rw [hed,Nat.beq_refl] at this; cases this
 have hslotT:(T.map fun e=>V1 (.slot e.1))=T.map fun e=>V (.slot e.1):=List.map_congr_left fun e he=>by simp [V1,hTd e he]
 have hzT:∀ {T:List aO} {ps:List AV} {t:Nat} {av:AV},(t,av)∈qb T ps→∃ e∈T,e.1=t:=by
  intro T
  induction T with
  | nil=>intro ps t av h; cases ps <;> cases h
  | cons e T ih =>
   intro ps t av h
   cases ps with
   | nil=>cases h
   | cons p ps =>
    rcases List.mem_cons.1 h with h | h
    ·cases h; exact ⟨e,by simp,rfl⟩
    ·obtain ⟨e',h1,h2⟩:=ih h; exact ⟨e',by simp [h1],h2⟩
 refine ⟨y,rfl,{ g with Imm:=fun b=>Imm' b },V1,o2++o1,⟨rfl,rfl,rfl,rfl,rfl,hI,fun b hb => ?_⟩,fun b hb => ?_,fun b hb => ?_,hchg,hV1,?_,?_,?_,fun b hb => ?_⟩
 ·rcases hnew b hb with h | h | h
  ·exact .inl h
  ·exact .inr (hp.own2 b (by simp [h]))
  ·exact .inr (.inl (Nat.le_trans hp.base h.1))
 ·rcases hnew b hb with h | h | h
  ·exact .inl h
  ·exact .inr (.inl h)
  ·exact .inr (.inr h.1)
 ·rcases hnew b hb with h | h | h
  ·exact Nat.lt_of_lt_of_le (hp.imm b (.inl h)) hchg.size
  ·exact Nat.lt_of_lt_of_le (hob b h).1 hchg.size
  ·exact h.2
 ·intro t
  rw [kc a d t y (by rw [hp.size]; exact hlt)]
  simp only [V1]
  split
  ·rfl
  ·exact hp.val t
 ·refine bi.2 ⟨o2,o1,rfl,?_,o1,[],by simp,⟨?_,?_⟩,rfl⟩
  ·refine wl (V:=V) hpl ?_ ?_
   ·rw [hslotT]
    exact cn (g:=cv w Imm' g.Im) (g':={ g with Imm:=fun b=>Imm' b }) (fun _ h=>h) _ _ o2 hclp (.inl fun _ h=>h) (hshp Imm' (fun b=>g.Im b∨b∈oN) g.Im w w' _ o2 hR2)
   ·intro t T' cs hm b zs hb hh hsz i hi
    obtain ⟨e,he,rfl⟩:=hzT hm
    have htd:=hTd e he
    have hb':V (.slot e.1) = .pointer (some ⟨b,0,none⟩):=by simpa [V1,htd] using hb
    have hmem:=ux hm hi
    simp only [V1,htd,if_false,hmem,if_true,hb']
    obtain ⟨zl⟩:=zs
    exact mo hh (by simpa using (show i<zl.length by simp at hsz; omega))
  ·show R _ _ _ res (V1 (.slot d)) o1
   rw [show V1 (.slot d)=y by simp [V1]]
   exact cl (g:=cv w Imm' g.Im) (g':={ g with Imm:=fun b=>Imm' b }) (fun _ h=>h) res y o1 hcl (.inl fun _ h=>h) (hsh Imm' (fun b=>g.Im b∨b∈oN) g.Im w w' y o1 hR1)
  ·cases res <;> try trivial
   case box T' cs =>
    intro b hb i hi
    dsimp only at hb hi ⊢
    rw [show V1 (.slot d)=y by simp [V1]] at hb
    simp only [R] at hR1
    obtain ⟨b',zs,os,hx',_,hh,hrs⟩:=hR1
    rw [hb] at hx'; cases hx'
    simp only [V1,if_true,hb]
    exact mo hh (by rw [aQ hrs]; exact hi)
 ·exact List.perm_append_comm.nodup_iff.1 hndo
 ·obtain ⟨h1,h2,h3⟩:=hfr b (by rcases List.mem_append.1 hb with h | h <;> simp [h])
  refine ⟨h1,h2,?_⟩
  rintro (h | h)
  ·exact h3 h
  ·rcases h1 with h1 | h1
   ·exact (hob b h1).2 (.inr (.inl h))
   ·exact absurd (hp.imm b (.inr h)) (by omega)
end
end Go.Abs
