import Derived.Test.YtkgfjkfccpjcgaaDoorAN
namespace Go.Abs
set_option linter.unusedVariables false
section
variable {P:Program} {ty:TypeId} {pos:String} {aft:Array Edge} {gd:Option (Nat×Bool)}
theorem za {g:Gh} {V:bH→Value} {w:World} {Bs:List AV}:∀ {avs:List AV} {xs:List Value} {o:List Nat},lN avs=true→Rs g V w (avs++Bs) xs o→∃ (ys zs:List Value),xs=ys++zs∧Rs g V w Bs zs o∧ys.length=avs.length
 | [],xs,o,_,h=>⟨[],xs,rfl,h,rfl⟩
 | a::avs,xs,o,hn,h=>by
  simp only [lN,Bool.and_eq_true] at hn
  simp only [List.cons_append,Rs] at h
  obtain ⟨x,l,o1,o2,rfl,rfl,h1,h2⟩:=h
  obtain rfl:=pM a x o1 hn.1 h1
  obtain ⟨ys,z,rfl,h3,h4⟩:=za hn.2 h2
  exact ⟨x::ys,z,rfl,by simpa using h3,by simp [h4]⟩
theorem tt (N T G:List aJ) (W:List bH) (d u:Nat) (f:FuncId) (ys:List Operand) {args:Array Operand} {ats:Array TypeId} (ts:List Nat) (avs posts:List AV) (res:AV) (hts:T.map (·.1)=ts) (hlp:posts.length=T.length) (hu:look N u = .clo f ts) (hrun:∀ args w,(callFunc f args).run P w = .ok (.enter f args) w)
  (hargs:ys.toArray=args) (hav:ys.map (kM N)=avs) (hf:sv P f (avs++T.map (·.2)) (avs++posts) res) (hnp:lN avs=true) (hcl:br res=true) (hclT:bq (T.map (·.2))=true) (hclp:bq posts=true)
  (hsh:fw res=true) (hshp:jx posts=true) (hdt:T.all (fun e => !Nat.beq e.1 d)=true) (hG:gE T posts++[(d,res)]=G) (hW:bH.slot d::jF (gE T posts)=W) :
  bm P ⟨some d,.call ⟨.value (.tmp u),args,ats⟩,ty,pos,aft,gd⟩ N T G W:=by
 have hpl:posts.length≤T.length:=Nat.le_of_eq hlp
 subst hG hW hargs
 refine bm.core fun g V oN oT a w hd hp => ?_
 obtain ⟨oc,_,hce,_⟩:=eo hp.esN u
 dsimp only at hce
 rw [hu] at hce
 simp only [R] at hce
 have hev:a.eval (Operand.tmp u) = .func (.func f) #[] (ts.map fun t=>V (.slot t)).toArray:=by
  have:=hp.val u
  simp only [Act.eval]
  rw [← this,hce.1]
 have hr:(execOp a.eval ⟨some d,.call ⟨.value (.tmp u),ys.toArray,ats⟩,ty,pos,aft,gd⟩).run P w = .ok (.enter f (ys.toArray.map a.eval++(ts.map fun t=>V (.slot t)).toArray)) w:=by
  simp [execOp,resolve,hev,Deferred.ofValue,invoke,hrun]
 have hTv:(T.map fun e=>V (.slot e.1))=ts.map fun t=>V (.slot t):=by rw [← hts,List.map_map]; rfl
 have hR:Rs (dy w g.Imm (fun b=>g.Im b∨b∈oN)) V0 w (avs++T.map (·.2)) (ys.map a.eval++ts.map fun t=>V (.slot t)) oT:=by
  refine cU.2 ⟨_,_,[],oT,rfl,by simp,?_,?_⟩
  ·rw [← hav]
   exact gm (g:=g) (g':=dy w g.Imm (fun b=>g.Im b∨b∈oN)) rfl (fun b hb=>hb) hp.val hp.esN _
  ·rw [← hTv]
   exact cc (g:=g) (g':=dy w g.Imm (fun b=>g.Im b∨b∈oN)) (fun _ h=>h) _ _ oT hclT (.inl fun b hb => .inl hb) (wv hp.esT)
 have hnd:=hp.nodup
 have hob:∀ b∈oT,b<w.heap.size∧¬ (g.Imm b∨g.Im b∨b∈oN):=by
  intro b hb
  have h1:=hp.own b (by simp [hb])
  refine ⟨h1.1,?_⟩
  rintro (h | h | h)
  ·exact h1.2 (.inl h)
  ·exact h1.2 (.inr h)
  ·exact (List.nodup_append.1 hnd).2.2 b h b hb rfl
 have hc:=hf g.Imm (fun b=>g.Im b∨b∈oN) w _ oT (fun b hb=>by
  rcases hb with hb | hb | hb
  ·exact hp.imm b (.inl hb)
  ·exact hp.imm b (.inr hb)
  ·exact (hp.own b (by simp [hb])).1) hR (List.nodup_append.1 hnd).2.1 hob
 have ea:(ys.map a.eval++ts.map fun t=>V (.slot t)).toArray=ys.toArray.map a.eval++(ts.map fun t=>V (.slot t)).toArray:=by
  apply Array.ext'
  simp
 rw [ea] at hc
 have hlt:d<g.n:=hd d rfl
 refine Yl.call hr (hc.mono ?_)
 rintro e' w' ⟨y,rfl,hchg,Imm',o,hI,hnew,hRr,hndo,hfr⟩
 simp only [Rs] at hRr
 obtain ⟨y',mR,o1,o2,hyv,rfl,hR1,hR2⟩:=hRr
 obtain ⟨rfl,rfl⟩:=List.cons.inj hyv
 have hR2:Rs (dy w Imm' (fun b=>g.Im b∨b∈oN)) V0 w' posts ((T.map fun e=>V (.slot e.1)).take posts.length) o2:=by
  obtain ⟨zs,z,hz,h1,h2⟩:=za hnp hR2
  have hyl:(ys.map a.eval).length=avs.length:=by rw [← hav]; simp
  have hzl:zs++z=ys.map a.eval++ts.map fun t=>V (.slot t):=by
   rw [← hz,List.take_of_length_le (by simp [← hav,← hts,hlp])]
  have hzz:z=ts.map fun t=>V (.slot t):=(List.append_inj hzl (by rw [h2,hyl])).2
  rw [hTv,List.take_of_length_le (by simp [← hts,hlp]),← hzz]
  exact h1
 let V1:bH→Value:=fun l=>match l with
  | .slot u=>if u=d then y else V (.slot u)
  | .cell u i=>if u=d then fU w' y i else if bH.cell u i∈jF (gE T posts) then fU w' (V (.slot u)) i else V (.cell u i)
 have hV1:∀ l,fA (.slot d::jF (gE T posts)) l=false→V1 l=V l:=by
  intro l hl
  simp only [fA,List.any_cons,Bool.or_eq_false_iff] at hl
  cases l with
  | slot u =>
   have:u≠d:=fun e=>by subst e; simp at hl
   simp [V1,this]
  | cell u i =>
   have h1:u≠d:=fun e=>by subst e; simp at hl
   have h2:bH.cell u i ∉ jF (gE T posts):=fun hm=>by
    have:=List.any_eq_false.1 hl.2 _ hm
    simp at this
   simp [V1,h1,h2]
 have hTd:∀ e∈T,e.1≠d:=fun e he hed=>by
  have:=List.all_eq_true.1 hdt e he
  rw [hed,Nat.beq_refl] at this; cases this
 have hslotT:(T.map fun e=>V1 (.slot e.1))=T.map fun e=>V (.slot e.1):=List.map_congr_left fun e he=>by simp [V1,hTd e he]
 have hzT:∀ {T:List aJ} {ps:List AV} {t:Nat} {av:AV},(t,av)∈gE T ps→∃ e∈T,e.1=t:=by
  intro T
  induction T with
  | nil=>intro ps t av h; cases ps <;> cases h
  | cons e T ih =>
   intro ps t av h
   cases ps with
   | nil=>cases h
   | cons p ps =>
    rcases List.mem_cons.1 h with h | h
    ·cases h; exact ⟨e,by simp,rfl⟩
    ·obtain ⟨e',h1,h2⟩:=ih h; exact ⟨e',by simp [h1],h2⟩
 refine ⟨y,rfl,{ g with Imm:=fun b=>Imm' b },V1,o2++o1,⟨rfl,rfl,rfl,rfl,rfl,hI,fun b hb => ?_⟩,fun b hb => ?_,fun b hb => ?_,hchg,hV1,?_,?_,?_,fun b hb => ?_⟩
 ·rcases hnew b hb with h | h | h
  ·exact .inl h
  ·exact .inr (hp.own2 b (by simp [h]))
  ·exact .inr (.inl (Nat.le_trans hp.base h.1))
 ·rcases hnew b hb with h | h | h
  ·exact .inl h
  ·exact .inr (.inl h)
  ·exact .inr (.inr h.1)
 ·rcases hnew b hb with h | h | h
  ·exact Nat.lt_of_lt_of_le (hp.imm b (.inl h)) hchg.size
  ·exact Nat.lt_of_lt_of_le (hob b h).1 hchg.size
  ·exact h.2
 ·intro t
  rw [gM a d t y (by rw [hp.size]; exact hlt)]
  simp only [V1]
  split
  ·rfl
  ·exact hp.val t
 ·refine aZ.2 ⟨o2,o1,rfl,?_,o1,[],by simp,⟨?_,?_⟩,rfl⟩
  ·refine pf (V:=V) hpl ?_ ?_
   ·rw [hslotT]
    exact cc (g:=dy w Imm' (fun b=>g.Im b∨b∈oN)) (g':={ g with Imm:=fun b=>Imm' b }) (fun _ h=>h) _ _ o2 hclp (.inr hshp) hR2
   ·intro t T' cs hm b zs hb hh hsz i hi
    obtain ⟨e,he,rfl⟩:=hzT hm
    have htd:=hTd e he
    have hb':V (.slot e.1) = .pointer (some ⟨b,0,none⟩):=by simpa [V1,htd] using hb
    have hmem:=lW hm hi
    simp only [V1,htd,if_false,hmem,if_true,hb']
    obtain ⟨zl⟩:=zs
    exact eH hh (by simpa using (show i<zl.length by simp at hsz; omega))
  ·show R _ _ _ res (V1 (.slot d)) o1
   rw [show V1 (.slot d)=y by simp [V1]]
   exact cF (g:=dy w Imm' (fun b=>g.Im b∨b∈oN)) (g':={ g with Imm:=fun b=>Imm' b }) (fun _ h=>h) res y o1 hcl (.inr hsh) hR1
  ·cases res <;> try trivial
   case box T' cs =>
    intro b hb i hi
    dsimp only at hb hi ⊢
    rw [show V1 (.slot d)=y by simp [V1]] at hb
    simp only [R] at hR1
    obtain ⟨b',zs,os,hx',_,hh,hrs⟩:=hR1
    rw [hb] at hx'; cases hx'
    simp only [V1,if_true,hb]
    exact eH hh (by rw [aU hrs]; exact hi)
 ·exact List.perm_append_comm.nodup_iff.1 hndo
 ·obtain ⟨h1,h2,h3⟩:=hfr b (by rcases List.mem_append.1 hb with h | h <;> simp [h])
  refine ⟨h1,h2,?_⟩
  rintro (h | h)
  ·exact h3 h
  ·rcases h1 with h1 | h1
   ·exact (hob b h1).2 (.inr (.inl h))
   ·exact absurd (hp.imm b (.inr h)) (by omega)
theorem nY (N:List aJ) (d f:Nat) (ts:List Nat) {ops:Array Operand} (ho:(ts.map Operand.tmp).toArray=ops) (h:(ts.all fun t => !Nat.beq t d)=true):bm P ⟨some d,.makeFunc (.func f) #[] ops,ty,pos,aft,gd⟩ N [] [(d,.clo f ts)] [.slot d]:=by
 subst ho
 refine bm.value rfl (by
  simp only [eO,List.all_eq_true] at h ⊢
  intro t ht
  have hne:t≠d:=by
   have:=h t ht
   intro e
   subst e
   simp at this
  simp [fA,Ne.symm hne]) rfl fun g V oN a w hp=>⟨.func (.func f) #[] (ts.map fun t=>V (.slot t)).toArray,?_,by simp [R]⟩
 have:(ts.map Operand.tmp).toArray.map a.eval=(ts.map fun t=>V (.slot t)).toArray:=by
  simp only [List.map_toArray,List.map_map]
  congr 1
  apply List.map_congr_left
  intro t _
  simp only [Function.comp]
  have:=hp.val t
  simp [Act.eval,this]
 simp [execOp,Instr.makeFunc,this]
theorem EP (N:List aJ) (d z:Nat) (s:Bool) {T e:TypeId} (x y:Operand) {kl kc:IntKind} {c:Int} {u:Unit} {by_:Nat} (hE:iF P T e z by_) (h0:0<by_)
  (hx:rd N x = .v (.int kl 0)) (hy:rd N y = .v (.int kc c)) (hq:EO by_ c=some u) :
  bm P ⟨some d,.makeSlice T x y,ty,pos,aft,gd⟩ N [] [(d,.fr (.own e) s z [])] [.slot d]:=by
 obtain ⟨i,zv,hT,hi,hz',hs,hzc,_,rfl⟩:=hE.ex
 unfold EO at hq
 split at hq
 ·rename_i h
  obtain ⟨n,rfl⟩:∃ n:Nat,c=(n:Int):=⟨c.toNat,by omega⟩
  have hb2:=h.2
  simp only [Int.toNat_natCast] at hb2
  have hn:n≤maxLen:=by
   have:=Nat.le_mul_of_pos_left n h0
   simp only [maxLen]; omega
  refine bm.fresh rfl rfl fun g V oN a w hp => ?_
  have h1:=cX hp.val hp.esN hx
  have h2:=cX hp.val hp.esN hy
  have hb':(i.bytes:Int) * (n:Int)≤281474976710656:=by
   have h:((i.bytes * n:Nat):Int)≤281474976710656:=by omega
   rwa [Int.natCast_mul] at h
  have hr:=run_make (P:=P) w T e i zv hT hi hz' kl kc 0 n (by omega) (by omega) hb' (by simp only [maxLen] at hn; omega)
  simp only [Int.toNat_natCast,Int.toNat_zero] at hr
  refine (Yl.val (by simp [execOp,h1,h2,hr]:(execOp a.eval ⟨some d,.makeSlice T x y,ty,pos,aft,gd⟩).run P w = .ok (.value (.slice (some ⟨w.heap.size,0,none⟩) 0 n)) (w.alloc (.cells (madeCells zv.cells (n * i.size)) e)))).mono ?_
  rintro v w2 ⟨rfl,rfl⟩
  have hnew:=heap_alloc_new w (.cells (madeCells zv.cells (n * i.size)) e)
  have hown:(w.alloc (.cells (madeCells zv.cells (n * i.size)) e)).ownsRow 0 e z (.slice (some ⟨w.heap.size,0,none⟩) 0 n) 0 []:=by
   refine ⟨by simp,.inr ⟨w.heap.size,n,_,rfl,Nat.zero_le _,hnew,Nat.zero_le _,hn,?_,by simp⟩⟩
   rw [size_madeCells,hs]
  refine ⟨(ep.of_grown (World.grownBy_alloc w _ none)).mono (by simp),g,[w.heap.size],g.le_refl,fun b hb => .inl hb,?_,by simp,?_⟩
  ·exact rT (vs:=[]) (gp hown (by simp)) (by simp [hZ])
  ·intro b hb
   simp at hb; subst hb
   exact ⟨Nat.le_refl _,(hown.lt _ rfl).2,fun hi=>Nat.lt_irrefl _ (hp.imm _ (.inl hi))⟩
 ·cases hq
theorem DG {l:List IC} {n z m:Nat} (hl:l.length=n * z) (hm:l.length=m * z) (hz:0<z):n=m:=Nat.eq_of_mul_eq_mul_right hz (hl.symm.trans hm)
theorem qS (N:List aJ) (d:Nat) {t t' e:TypeId} {x:Operand} (b n c m:Nat) (hT:P.underlying t=some (.slice e)) (hx:rd N x = .v (.slice (some ⟨b,0,none⟩) n c)) (hn:n=m) :
  bm P ⟨some d,.call ⟨.builtin .len,#[x],#[t]⟩,t',pos,aft,gd⟩ N [] [(d,.v (.int .i64 (m:Int)))] [.slot d]:=by
 subst hn
 refine bm.v rfl fun g V oN ac w hp => ?_
 have h1:=cX hp.val hp.esN hx
 simp [execOp,resolve,invoke,builtin,Builtin.len_,h1,run_underlying hT,goInt]
theorem Bf (N:List aJ) (d t:Nat) (f:FuncId) {cal x:Operand} {args:List Operand} {ats:Array TypeId} {e:TypeId} {z:Nat} {s:Bool} {vs:List IC} (avs:List AV) (res:AV) (hcal:rd N cal = .v (.func (.func f) #[] #[])) (hrun:∀ args w,(callFunc f args).run P w = .ok (.enter f args) w)
  (hx:bj (N++[(t,.fr (.own e) s z vs)]) x = .same (.slot t)) (hav:args.map (kM N)=avs) (hf:ET P f (.fr (.own e) s z vs::avs) res) (hcl:br res=true) (hsh:fw res=true) (hnb:eu res=true) :
  bm P ⟨some d,.call ⟨.value cal,(x::args).toArray,ats⟩,ty,pos,aft,gd⟩ N [(t,.fr (.own e) s z vs)] [(t,.any),(d,res)] [.slot d]:=by
 refine bm.core fun g V oN oT a w hd hp => ?_
 have hT:=hp.esT
 simp only [Es] at hT
 obtain ⟨ob,o2,rfl,⟨hRt,_⟩,rfl⟩:=hT
 have hcv:=cX hp.val hp.esN hcal
 have hax:=bM hp.val (aZ.2 ⟨oN,_,rfl,hp.esN,hp.esT⟩) x
 rw [hx] at hax
 have hxe:a.eval x=V (.slot t):=by simp only [R] at hax; exact hax.1
 have hr:(execOp a.eval ⟨some d,.call ⟨.value cal,(x::args).toArray,ats⟩,ty,pos,aft,gd⟩).run P w = .ok (.enter f ((x::args).toArray.map a.eval)) w:=by
  simp [execOp,resolve,hcv,Deferred.ofValue,invoke,hrun]
 have hargs:Rs (dy w g.Imm (fun b=>g.Im b∨b∈oN)) V0 w (.fr (.own e) s z vs::avs) ((x::args).map a.eval) ob:=by
  simp only [List.map_cons,Rs]
  refine ⟨_,_,ob,[],rfl,by simp,?_,?_⟩
  ·rw [hxe]
   exact cF (g:=g) (g':=dy w g.Imm (fun b=>g.Im b∨b∈oN)) (fun _ h=>h) (.fr (.own e) s z vs) _ ob rfl (.inl fun b hb => .inl hb) hRt
  ·rw [← hav]
   exact gm (g:=g) (g':=dy w g.Imm (fun b=>g.Im b∨b∈oN)) rfl (fun b hb=>hb) hp.val hp.esN _
 have hnd:=hp.nodup
 have hob:∀ b∈ob,b<w.heap.size∧¬ (g.Imm b∨g.Im b∨b∈oN):=by
  intro b hb
  have h1:=hp.own b (by simp [hb])
  refine ⟨h1.1,?_⟩
  rintro (h | h | h)
  ·exact h1.2 (.inl h)
  ·exact h1.2 (.inr h)
  ·exact (List.nodup_append.1 hnd).2.2 b h b (by simp [hb]) rfl
 have hc:=hf g.Imm (fun b=>g.Im b∨b∈oN) w _ ob (fun b hb=>by
  rcases hb with hb | hb | hb
  ·exact hp.imm b (.inl hb)
  ·exact hp.imm b (.inr hb)
  ·exact (hp.own b (by simp [hb])).1) hargs (by have:=(List.nodup_append.1 hnd).2.1; simpa using this) hob
 have ea:((x::args).map a.eval).toArray=(x::args).toArray.map a.eval:=by simp
 rw [ea] at hc
 have hlt:d<g.n:=hd d rfl
 refine Yl.call hr (hc.mono ?_)
 rintro e' w' ⟨y,rfl,hchg,Imm',o,hI,hnew,hR,hndo,hfr⟩
 refine ⟨y,rfl,{ g with Imm:=fun b=>Imm' b },cI V d y,o,⟨rfl,rfl,rfl,rfl,rfl,hI,fun b hb => ?_⟩,fun b hb => ?_,fun b hb => ?_,by simpa using hchg,fun l hl=>cB hl,fun u=>dK hp.val hp.size hlt u,?_,hndo,fun b hb => ?_⟩
 ·rcases hnew b hb with h | h | h
  ·exact .inl h
  ·exact .inr (hp.own2 b (by simp [h]))
  ·exact .inr (.inl (Nat.le_trans hp.base h.1))
 ·rcases hnew b hb with h | h | h
  ·exact .inl h
  ·exact .inr (.inl (by simp [h]))
  ·exact .inr (.inr h.1)
 ·rcases hnew b hb with h | h | h
  ·exact Nat.lt_of_lt_of_le (hp.imm b (.inl h)) hchg.size
  ·exact Nat.lt_of_lt_of_le (hob b h).1 hchg.size
  ·exact h.2
 ·refine ⟨[],o,rfl,⟨by simp [R],trivial⟩,o,[],by simp,⟨?_,?_⟩,rfl⟩
  ·show R _ _ _ res (cI V d y (.slot d)) o
   rw [de]
   exact cF (g:=dy w Imm' (fun b=>g.Im b∨b∈oN)) (g':={ g with Imm:=fun b=>Imm' b }) (fun _ h=>h) res y o hcl (.inr hsh) hR
  ·cases res <;> first | trivial | (simp [eu] at hnb)
 ·obtain ⟨h1,h2,h3⟩:=hfr b hb
  refine ⟨h1.imp (fun h=>by simp [h]) id,h2,?_⟩
  rintro (h | h)
  ·exact h3 h
  ·rcases h1 with h1 | h1
   ·exact (hob b h1).2 (.inr (.inl h))
   ·exact absurd (hp.imm b (.inr h)) (by omega)
theorem jE (N:List aJ) (d t n:Nat) {T:TypeId} {p:Bool} {cs cs':List AV} {W:List bH} (hpt:p=true) (hcs:cs=cs') (hn:cs'.length=n) (hdt:d≠t) (hcl:dz (.slot d::ct t 0 n) cs'=true) (hW : .slot d::ct t 0 n=W) :
  bm P ⟨some d,.nilCheck (.tmp t),ty,pos,aft,gd⟩ N [(t,.obox p T cs)] [(t,.box T cs'),(d,.ptr t 0)] W:=by
 subst hpt hcs hW hn
 refine bm.core fun g V oN oT a w hd hp => ?_
 have hT:=hp.esT
 simp only [Es] at hT
 obtain ⟨o1,o2,rfl,⟨hR,_⟩,rfl⟩:=hT
 dsimp only at hR
 simp only [R] at hR
 obtain ⟨b,xs,os,hx,rfl,hh,hrs⟩:=hR.1 trivial
 have hl:=aU hrs
 have hev:a.eval (.tmp t) = .pointer (some ⟨b,0,none⟩):=by rw [← hx,hp.val]; rfl
 have hr:(execOp a.eval ⟨some d,.nilCheck (.tmp t),ty,pos,aft,gd⟩).run P w = .ok (.value (.pointer (some ⟨b,0,none⟩))) w:=by
  simp [execOp,hev]
 refine (Yl.val hr).mono ?_
 rintro y w' ⟨rfl,rfl⟩
 have hlt:d<g.n:=hd d rfl
 have hV':∀ l,fA (.slot d::ct t 0 cs.length) l=false→jZ (cI V d (.pointer (some ⟨b,0,none⟩))) t 0 xs l=V l:=by
  intro l hl'
  have h1:fA [.slot d] l=false:=by
   simp only [fA,List.any_cons,List.any_nil,Bool.or_false,Bool.or_eq_false_iff] at hl' ⊢
   exact hl'.1
  have h2:fA (ct t 0 xs.length) l=false:=by
   rw [hl]
   simp only [fA,List.any_cons,Bool.or_eq_false_iff] at hl' ⊢
   exact hl'.2
  rw [rm h2,cB h1]
 have hslot:∀ u,jZ (cI V d (.pointer (some ⟨b,0,none⟩))) t 0 xs (.slot u)=cI V d (.pointer (some ⟨b,0,none⟩)) (.slot u):=fun u=>rfl
 have hVt:cI V d (.pointer (some ⟨b,0,none⟩)) (.slot t)=V (.slot t):=by simp only [cI]; rw [if_neg fun e=>hdt e.symm]
 refine ⟨g,jZ (cI V d (.pointer (some ⟨b,0,none⟩))) t 0 xs,b::os,g.le_refl,fun c hc => .inl hc,fun c hc=>hp.imm c (.inl hc),ep.refl _ _,hV',fun u=>by rw [hslot]; exact dK hp.val hp.size hlt u,?_,?_,?_⟩
 ·refine ⟨b::os,[],by simp,⟨?_,?_⟩,[],[],rfl,⟨?_,trivial⟩,rfl⟩
  ·show R g _ _ (.box T cs) (jZ _ t 0 xs (.slot t)) _
   rw [hslot,hVt]
   simp only [R]
   exact ⟨b,xs,os,hx,rfl,hh,cQ (W := .slot d::ct t 0 cs.length) (fun _ h=>h) (fun _ h=>h) hV' cs xs os hcl (fun _ _=>rfl) hrs⟩
  ·intro b' hb' i hi
   rw [hslot,hVt,hx] at hb'
   cases hb'
   rw [cell_of_row _ b i _ T (0,0) hh]
   simp only [List.getElem?_toArray,jZ,true_and,Nat.zero_le,Nat.zero_add,Nat.sub_zero]
   have:i<xs.length:=by rw [hl]; exact hi
   rw [if_pos this]
   simp [List.getD_eq_getElem?_getD,List.getElem?_eq_getElem this]
  ·show R g _ _ (.ptr t 0) (jZ _ t 0 xs (.slot d)) _
   rw [hslot,de]
   simp only [R]
   exact ⟨b,by rw [hslot,hVt]; exact hx,rfl,trivial⟩
 ·have:=(List.nodup_append.1 hp.nodup).2.1
  simpa using this
 ·intro c hc
  have h4:=hp.own c (by simp at hc ⊢; exact .inr hc)
  exact ⟨.inl (by simpa using hc),h4.1,h4.2⟩
theorem jq (N:List aJ) (d t i:Nat) {x:Operand} {T' e:TypeId} {z:Nat} {xs:List Value} {cs cs':List AV} (hx:bj N x = .same (.cell t i)) (hc:cs.getD i .any = .fl (.own e) z xs) (hic:i<cs.length) (hcs:cs.set i .any=cs') (hdt:d≠t) (hcl:dz [.slot d] cs'=true) :
  bm P ⟨some d,.assign x,ty,pos,aft,gd⟩ N [(t,.box T' cs)] [(t,.box T' cs'),(d,.fl (.own e) z xs)] [.slot d]:=by
 subst hcs
 refine bm.core fun g V oN oT a w hd hp => ?_
 have hT':=hp.esT
 simp only [Es] at hT'
 obtain ⟨ob,o2,rfl,hER,rfl⟩:=hT'
 obtain ⟨hR,htie⟩:=hER
 have hax:=bM hp.val hp.esN x
 rw [hx] at hax
 simp only [R] at hax hR
 obtain ⟨b,cur,os,hpt,rfl,hh,hrs⟩:=hR
 dsimp only at htie
 obtain ⟨o1,o3,hperm,hRi,hrest⟩:=im i hrs hic
 rw [hc] at hRi
 have hlen:=aU hrs
 have hcell:=htie b hpt i hic
 rw [cell_of_row w b i _ T' (0,0) hh] at hcell
 have hil:i<cur.length:=by omega
 have hVc:V (.cell t i)=cur.getD i undef:=by
  simp only [List.getElem?_toArray,List.getElem?_eq_getElem hil,Option.some.injEq] at hcell
  rw [← hcell]; simp [hil]
 rw [← hVc] at hRi
 have hr:(execOp a.eval ⟨some d,.assign x,ty,pos,aft,gd⟩).run P w = .ok (.value (V (.cell t i))) w:=by
  simp [execOp,pure,hax.1]
 refine (Yl.val hr).mono ?_
 rintro y w' ⟨rfl,rfl⟩
 have hlt:d<g.n:=hd d rfl
 have hdtl:∀ l,fA [.slot d] l=false→cI V d (V (.cell t i)) l=V l:=fun l hl=>cB hl
 have hnd2:(b::os).Nodup:=by have:=(List.nodup_append.1 hp.nodup).2.1; simpa using this
 have hnd3:(b::(o1++o3)).Nodup:=((hperm.cons b).nodup_iff).1 hnd2
 have hlts:∀ c,c∈b::os→c<w'.heap.size∧¬ g.imm c:=fun c hc'=>hp.own c (by simp at hc' ⊢; exact .inr hc')
 have hin:∀ c,c∈(b::o3)++o1→c∈b::os:=by
  intro c hc'
  rcases List.mem_append.1 hc' with h | h
  ·rcases List.mem_cons.1 h with h | h
   ·simp [h]
   ·have:=hperm.mem_iff.2 (List.mem_append.2 (.inr h)); simp [this]
  ·have:=hperm.mem_iff.2 (List.mem_append.2 (.inl h)); simp [this]
 have hVt:cI V d (V (.cell t i)) (.slot t)=V (.slot t):=by simp only [cI]; rw [if_neg fun e=>hdt e.symm]
 refine ⟨g,cI V d (V (.cell t i)),(b::o3)++o1,g.le_refl,fun c hc => .inl hc,fun c hc=>hp.imm c (.inl hc),ep.refl _ _,hdtl,fun u=>dK hp.val hp.size hlt u,?_,?_,?_⟩
 ·refine ⟨b::o3,o1,rfl,⟨?_,?_⟩,o1,[],by simp,⟨?_,trivial⟩,rfl⟩
  ·show R g _ _ (.box T' _) (cI V d _ (.slot t)) _
   rw [hVt]
   simp only [R]
   exact ⟨b,cur,o3,hpt,rfl,hh,cQ (W:=[.slot d]) (fun _ h=>h) (fun _ h=>h) hdtl _ _ _ hcl (fun _ _=>rfl) hrest⟩
  ·intro b' hb' j hj
   rw [hVt] at hb'
   exact htie b' hb' j (by simpa using hj)
  ·show R g _ _ (.fl (.own e) z xs) (cI V d _ (.slot d)) _
   rw [de]
   exact cF (g:=g) (g':=g) (fun _ h=>h) _ _ _ rfl (.inl fun _ h=>h) hRi
 ·have h1:(o1++(b::o3)).Nodup:=(List.perm_middle.nodup_iff).2 hnd3
  exact (List.perm_append_comm.nodup_iff).1 h1
 ·intro c hc'
  have h4:=hlts c (hin c hc')
  exact ⟨.inl (by simpa using hin c hc'),h4.1,h4.2⟩
end
end Go.Abs
