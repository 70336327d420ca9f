import Derived.Test.YtckpeedhchjjnaaGreatDoorAN
namespace Go.Abs
set_option linter.unusedVariables false
section
variable {P:Program} {ty:TypeId} {pos:String} {aft:Array Edge} {gd:Option (Nat×Bool)}
theorem CP {g:Gh} {V:bF→Value} {w:World} {Bs:List AV}:∀ {avs:List AV} {xs:List Value} {o:List Nat},lR avs=true→Rs g V w (avs++Bs) xs o→∃ (ys zs:List Value),xs=ys++zs∧Rs g V w Bs zs o∧ys.length=avs.length
 | [],xs,o,_,h=>⟨[],xs,rfl,h,rfl⟩
 | a::avs,xs,o,hn,h=>by
  simp only [lR,ah] at hn
  simp only [List.cons_append,Rs] at h
  obtain ⟨x,l,o1,o2,rfl,rfl,h1,h2⟩:=h
  obtain rfl:=qS a x o1 hn.1 h1
  obtain ⟨ys,z,rfl,h3,h4⟩:=CP hn.2 h2
  exact ⟨x::ys,z,rfl,by simpa using h3,by simp [h4]⟩
theorem xL (N T G:List aJ) (W:List bF) (d u:Nat) (f:FuncId) (ys:List Operand) {args:Array Operand} {ats:Array TypeId} (ts:List Nat) (avs posts:List AV) (res:AV) (hts:T.map (·.1)=ts) (hlp:posts.length=T.length) (hu:look N u = .clo f ts) (hrun:∀ args w,(callFunc f args).run P w = .ok (.enter f args) w)
  (hargs:ys.toArray=args) (hav:ys.map (lN N)=avs) (hf:mp P f (avs++T.map (·.2)) (avs++posts) res) (hnp:lR avs=true) (hcl:bq res=true) (hclT:bj (T.map (·.2))=true) (hclp:bj posts=true)
  (hsh:eW res=true) (hshp:kq posts=true) (hdt:T.all (fun e => !Nat.beq e.1 d)=true) (hG:fX T posts++[(d,res)]=G) (hW:bF.slot d::jo (fX T posts)=W) :
  bh P ⟨some d,.call ⟨.value (.tmp u),args,ats⟩,ty,pos,aft,gd⟩ N T G W:=by
 have hpl:posts.length≤T.length:=Nat.le_of_eq hlp;subst hG hW hargs;refine bh.core fun g V oN oT a w hd hp => ?_;obtain ⟨oc,_,hce,_⟩:=cE hp.esN u;dsimp only at hce;rw [hu] at hce;simp only [R] at hce
 have hev:a.eval (Operand.tmp u) = .func (.func f) #[] (ts.map fun t=>V (.slot t)).toArray:=by have:=hp.val u;simp only [Act.eval];rw [← this,hce.1]
 have hr:(execOp a.eval ⟨some d,.call ⟨.value (.tmp u),ys.toArray,ats⟩,ty,pos,aft,gd⟩).run P w = .ok (.enter f (ys.toArray.map a.eval++(ts.map fun t=>V (.slot t)).toArray)) w:=by simp [execOp,resolve,hev,Deferred.ofValue,invoke,hrun]
 have hTv:(T.map fun e=>V (.slot e.1))=ts.map fun t=>V (.slot t):=by rw [← hts,List.map_map]; rfl
 have hR:Rs (cz w g.Imm (fun b=>g.Im b∨b∈oN)) V0 w (avs++T.map (·.2)) (ys.map a.eval++ts.map fun t=>V (.slot t)) oT:=by
  refine cJ.2 ⟨_,_,[],oT,rfl,by simp,?_,?_⟩
  ·rw [← hav];exact fg (g:=g) (g':=cz w g.Imm (fun b=>g.Im b∨b∈oN)) rfl (fun b hb=>hb) hp.val hp.esN _
  ·rw [← hTv];exact bJ (g:=g) (g':=cz w g.Imm (fun b=>g.Im b∨b∈oN)) (fun _ h=>h) _ _ oT hclT (.inl fun b hb => .inl hb) (xT hp.esT)
 have hnd:=hp.nodup
 have hob:∀ b∈oT,b<w.heap.size∧¬ (g.Imm b∨g.Im b∨b∈oN):=by
  intro b hb;have h1:=hp.own b (by simp [hb]);refine ⟨h1.1,?_⟩;rintro (h | h | h)
  ·exact h1.2 (.inl h)
  ·exact h1.2 (.inr h)
  ·exact (ag.1 hnd).2.2 b h b hb rfl
 have hc:=hf g.Imm (fun b=>g.Im b∨b∈oN) w _ oT (fun b hb=>by
  rcases hb with hb | hb | hb
  ·exact hp.imm b (.inl hb)
  ·exact hp.imm b (.inr hb)
  ·exact (hp.own b (by simp [hb])).1) hR (ag.1 hnd).2.1 hob
 have ea:(ys.map a.eval++ts.map fun t=>V (.slot t)).toArray=ys.toArray.map a.eval++(ts.map fun t=>V (.slot t)).toArray:=by apply Array.ext';simp
 rw [ea] at hc;have hlt:d<g.n:=hd d rfl;refine Yl.call hr (hc.mono ?_);rintro e' w' ⟨y,rfl,hchg,Imm',o,hI,hnew,hRr,hndo,hfr⟩;simp only [Rs] at hRr;obtain ⟨y',iD,o1,o2,hyv,rfl,hR1,hR2⟩:=hRr;obtain ⟨rfl,rfl⟩:=List.cons.inj hyv
 have hR2:Rs (cz w Imm' (fun b=>g.Im b∨b∈oN)) V0 w' posts ((T.map fun e=>V (.slot e.1)).take posts.length) o2:=by
  obtain ⟨zs,z,hz,h1,h2⟩:=CP hnp hR2;have hyl:(ys.map a.eval).length=avs.length:=by rw [← hav]; simp
  have hzl:zs++z=ys.map a.eval++ts.map fun t=>V (.slot t):=by rw [← hz,List.take_of_length_le (by simp [← hav,← hts,hlp])]
  have hzz:z=ts.map fun t=>V (.slot t):=(List.append_inj hzl (by rw [h2,hyl])).2;rw [hTv,List.take_of_length_le (by simp [← hts,hlp]),← hzz];exact h1
 let V1:bF→Value:=fun l=>match l with
  | .slot u=>if u=d then y else V (.slot u)
  | .cell u i=>if u=d then eB w' y i else if bF.cell u i∈jo (fX T posts) then eB w' (V (.slot u)) i else V (.cell u i)
 have hV1:∀ l,fq (.slot d::jo (fX T posts)) l=false→V1 l=V l:=by
  intro l hl;simp only [fq,List.any_cons,Bool.or_eq_false_iff] at hl
  cases l with
  | slot u =>
   have:u≠d:=fun e=>by subst e; simp at hl
   simp [V1,this]
  | cell u i =>
   have h1:u≠d:=fun e=>by subst e; simp at hl
   have h2:bF.cell u i ∉ jo (fX T posts):=fun hm=>by have:=List.any_eq_false.1 hl.2 _ hm;simp at this
   simp [V1,h1,h2]
 have hTd:∀ e∈T,e.1≠d:=fun e he hed=>by have:=aR.1 hdt e he;rw [hed,Nat.beq_refl] at this; cases this
 have hslotT:(T.map fun e=>V1 (.slot e.1))=T.map fun e=>V (.slot e.1):=List.map_congr_left fun e he=>by simp [V1,hTd e he]
 have hzT:∀ {T:List aJ} {ps:List AV} {t:Nat} {av:AV},(t,av)∈fX T ps→∃ e∈T,e.1=t:=by
  intro T
  induction T with
  | nil=>intro ps t av h; cases ps <;> cases h
  | cons e T ih =>
   intro ps t av h
   cases ps with
   | nil=>cases h
   | cons p ps =>
    rcases aW.1 h with h | h
    ·cases h; exact ⟨e,by simp,rfl⟩
    ·obtain ⟨e',h1,h2⟩:=ih h; exact ⟨e',by simp [h1],h2⟩
 refine ⟨y,rfl,{ g with Imm:=fun b=>Imm' b },V1,o2++o1,⟨rfl,rfl,rfl,rfl,rfl,hI,fun b hb => ?_⟩,fun b hb => ?_,fun b hb => ?_,hchg,hV1,?_,?_,?_,fun b hb => ?_⟩
 ·rcases hnew b hb with h | h | h
  ·exact .inl h
  ·exact .inr (hp.own2 b (by simp [h]))
  ·exact .inr (.inl (bD hp.base h.1))
 ·rcases hnew b hb with h | h | h
  ·exact .inl h
  ·exact .inr (.inl h)
  ·exact .inr (.inr h.1)
 ·rcases hnew b hb with h | h | h
  ·exact am (hp.imm b (.inl h)) hchg.size
  ·exact am (hob b h).1 hchg.size
  ·exact h.2
 ·intro t;rw [eM a d t y (by rw [hp.size]; exact hlt)];simp only [V1];split
  ·rfl
  ·exact hp.val t
 ·refine aT.2 ⟨o2,o1,rfl,?_,o1,[],by simp,⟨?_,?_⟩,rfl⟩
  ·refine qR (V:=V) hpl ?_ ?_
   ·rw [hslotT];exact bJ (g:=cz w Imm' (fun b=>g.Im b∨b∈oN)) (g':={ g with Imm:=fun b=>Imm' b }) (fun _ h=>h) _ _ o2 hclp (.inr hshp) hR2
   ·intro t T' cs hm b zs hb hh hsz i hi;obtain ⟨e,he,rfl⟩:=hzT hm;have htd:=hTd e he;have hb':V (.slot e.1) = .pointer (some ⟨b,0,none⟩):=by simpa [V1,htd] using hb
    have hmem:=nD hm hi;simp only [V1,htd,if_false,hmem,if_true,hb'];obtain ⟨zl⟩:=zs;exact df hh (by simpa using (show i<zl.length by simp at hsz; omega))
  ·show R _ _ _ res (V1 (.slot d)) o1;rw [show V1 (.slot d)=y by simp [V1]];exact bV (g:=cz w Imm' (fun b=>g.Im b∨b∈oN)) (g':={ g with Imm:=fun b=>Imm' b }) (fun _ h=>h) res y o1 hcl (.inr hsh) hR1
  ·cases res <;> try trivial
   case box T' cs =>
    intro b hb i hi;dsimp only at hb hi ⊢;rw [show V1 (.slot d)=y by simp [V1]] at hb;simp only [R] at hR1;obtain ⟨b',zs,os,hx',_,hh,hrs⟩:=hR1;rw [hb] at hx'; cases hx';simp only [V1,if_true,hb];exact df hh (by rw [aZ hrs]; exact hi)
 ·exact List.perm_append_comm.nodup_iff.1 hndo
 ·obtain ⟨h1,h2,h3⟩:=hfr b (by rcases ak.1 hb with h | h <;> simp [h]);refine ⟨h1,h2,?_⟩;rintro (h | h)
  ·exact h3 h
  ·rcases h1 with h1 | h1
   ·exact (hob b h1).2 (.inr (.inl h))
   ·exact absurd (hp.imm b (.inr h)) (by omega)
theorem tq (N:List aJ) (d f:Nat) (ts:List Nat) {ops:Array Operand} (ho:(ts.map Operand.tmp).toArray=ops) (h:(ts.all fun t => !Nat.beq t d)=true):bh P ⟨some d,.makeFunc (.func f) #[] ops,ty,pos,aft,gd⟩ N [] [(d,.clo f ts)] [.slot d]:=by
 subst ho
 refine bh.value rfl (by
  simp only [eh,aR] at h ⊢
  intro t ht
  have hne:t≠d:=by
   have:=h t ht
   intro e
   subst e
   simp at this
  simp [fq,Ne.symm hne]) rfl fun g V oN a w hp=>⟨.func (.func f) #[] (ts.map fun t=>V (.slot t)).toArray,?_,by simp [R]⟩
 have:(ts.map Operand.tmp).toArray.map a.eval=(ts.map fun t=>V (.slot t)).toArray:=by simp only [List.map_toArray,List.map_map];congr 1;apply List.map_congr_left;intro t _;simp only [Function.comp];have:=hp.val t;simp [Act.eval,this]
 simp [execOp,Instr.makeFunc,this]
theorem FQ (N:List aJ) (d z:Nat) (s:Bool) {T e:TypeId} (x y:Operand) {kl kc:IntKind} {c:Int} {u:Unit} {by_:Nat} (hE:dO P T e z by_) (h0:0<by_)
  (hx:rd N x = .v (.int kl 0)) (hy:rd N y = .v (.int kc c)) (hq:GS by_ c=some u) :
  bh P ⟨some d,.makeSlice T x y,ty,pos,aft,gd⟩ N [] [(d,.fr (.own e) s z [])] [.slot d]:=by
 obtain ⟨i,zv,hT,hi,hz',hs,hzc,_,rfl⟩:=hE.ex;unfold GS at hq;split at hq
 ·rename_i h;obtain ⟨n,rfl⟩:∃ n:Nat,c=(n:Int):=⟨c.toNat,by omega⟩;have hb2:=h.2;simp only [Int.toNat_natCast] at hb2
  have hn:n≤maxLen:=by have:=Nat.le_mul_of_pos_left n h0;simp only [maxLen]; omega
  refine bh.fresh rfl rfl fun g V oN a w hp => ?_;have h1:=bP hp.val hp.esN hx;have h2:=bP hp.val hp.esN hy
  have hb':(i.bytes:Int) * (n:Int)≤281474976710656:=by
   have h:((i.bytes * n:Nat):Int)≤281474976710656:=by omega
   rwa [Int.natCast_mul] at h
  have hr:=run_make (P:=P) w T e i zv hT hi hz' kl kc 0 n (by omega) (by omega) hb' (by simp only [maxLen] at hn; omega);simp only [Int.toNat_natCast,Int.toNat_zero] at hr;refine (Yl.val (by simp [execOp,h1,h2,hr]:(execOp a.eval ⟨some d,.makeSlice T x y,ty,pos,aft,gd⟩).run P w = .ok (.value (.slice (some ⟨w.heap.size,0,none⟩) 0 n)) (w.alloc (.cells (madeCells zv.cells (n * i.size)) e)))).mono ?_;rintro v w2 ⟨rfl,rfl⟩;have hnew:=heap_alloc_new w (.cells (madeCells zv.cells (n * i.size)) e)
  have hown:(w.alloc (.cells (madeCells zv.cells (n * i.size)) e)).ownsRow 0 e z (.slice (some ⟨w.heap.size,0,none⟩) 0 n) 0 []:=by refine ⟨by simp,.inr ⟨w.heap.size,n,_,rfl,Nat.zero_le _,hnew,Nat.zero_le _,hn,?_,by simp⟩⟩;rw [size_madeCells,hs]
  refine ⟨(dq.of_grown (World.grownBy_alloc w _ none)).mono (by simp),g,[w.heap.size],g.le_refl,fun b hb => .inl hb,?_,by simp,?_⟩
  ·exact mw (vs:=[]) (fw hown (by simp)) (by simp [jk])
  ·intro b hb;simp at hb; subst hb;exact ⟨aq _,(hown.lt _ rfl).2,fun hi=>Nat.lt_irrefl _ (hp.imm _ (.inl hi))⟩
 ·cases hq
theorem EC {l:List IC} {n z m:Nat} (hl:l.length=n * z) (hm:l.length=m * z) (hz:0<z):n=m:=aO hz (hl.symm.trans hm)
theorem vZ (N:List aJ) (d:Nat) {t t' e:TypeId} {x:Operand} (b n c m:Nat) (hT:P.underlying t=some (.slice e)) (hx:rd N x = .v (.slice (some ⟨b,0,none⟩) n c)) (hn:n=m) :
  bh P ⟨some d,.call ⟨.builtin .len,#[x],#[t]⟩,t',pos,aft,gd⟩ N [] [(d,.v (.int .i64 (m:Int)))] [.slot d]:=by subst hn;refine bh.v rfl fun g V oN ac w hp => ?_;have h1:=bP hp.val hp.esN hx;simp [execOp,resolve,invoke,builtin,Builtin.len_,h1,run_underlying hT,goInt]
theorem DF (N:List aJ) (d t:Nat) (f:FuncId) {cal x:Operand} {args:List Operand} {ats:Array TypeId} {e:TypeId} {z:Nat} {s:Bool} {vs:List IC} (avs:List AV) (res:AV) (hcal:rd N cal = .v (.func (.func f) #[] #[])) (hrun:∀ args w,(callFunc f args).run P w = .ok (.enter f args) w)
  (hx:bm (N++[(t,.fr (.own e) s z vs)]) x = .same (.slot t)) (hav:args.map (lN N)=avs) (hf:Hn P f (.fr (.own e) s z vs::avs) res) (hcl:bq res=true) (hsh:eW res=true) (hnb:dM res=true) :
  bh P ⟨some d,.call ⟨.value cal,(x::args).toArray,ats⟩,ty,pos,aft,gd⟩ N [(t,.fr (.own e) s z vs)] [(t,.any),(d,res)] [.slot d]:=by
 refine bh.core fun g V oN oT a w hd hp => ?_;have hT:=hp.esT;simp only [Es] at hT;obtain ⟨ob,o2,rfl,⟨hRt,_⟩,rfl⟩:=hT;have hcv:=bP hp.val hp.esN hcal;have hax:=bE hp.val (aT.2 ⟨oN,_,rfl,hp.esN,hp.esT⟩) x;rw [hx] at hax;have hxe:a.eval x=V (.slot t):=by simp only [R] at hax; exact hax.1
 have hr:(execOp a.eval ⟨some d,.call ⟨.value cal,(x::args).toArray,ats⟩,ty,pos,aft,gd⟩).run P w = .ok (.enter f ((x::args).toArray.map a.eval)) w:=by simp [execOp,resolve,hcv,Deferred.ofValue,invoke,hrun]
 have hargs:Rs (cz w g.Imm (fun b=>g.Im b∨b∈oN)) V0 w (.fr (.own e) s z vs::avs) ((x::args).map a.eval) ob:=by
  simp only [List.map_cons,Rs];refine ⟨_,_,ob,[],rfl,by simp,?_,?_⟩
  ·rw [hxe];exact bV (g:=g) (g':=cz w g.Imm (fun b=>g.Im b∨b∈oN)) (fun _ h=>h) (.fr (.own e) s z vs) _ ob rfl (.inl fun b hb => .inl hb) hRt
  ·rw [← hav];exact fg (g:=g) (g':=cz w g.Imm (fun b=>g.Im b∨b∈oN)) rfl (fun b hb=>hb) hp.val hp.esN _
 have hnd:=hp.nodup
 have hob:∀ b∈ob,b<w.heap.size∧¬ (g.Imm b∨g.Im b∨b∈oN):=by
  intro b hb;have h1:=hp.own b (by simp [hb]);refine ⟨h1.1,?_⟩;rintro (h | h | h)
  ·exact h1.2 (.inl h)
  ·exact h1.2 (.inr h)
  ·exact (ag.1 hnd).2.2 b h b (by simp [hb]) rfl
 have hc:=hf g.Imm (fun b=>g.Im b∨b∈oN) w _ ob (fun b hb=>by
  rcases hb with hb | hb | hb
  ·exact hp.imm b (.inl hb)
  ·exact hp.imm b (.inr hb)
  ·exact (hp.own b (by simp [hb])).1) hargs (by have:=(ag.1 hnd).2.1; simpa using this) hob
 have ea:((x::args).map a.eval).toArray=(x::args).toArray.map a.eval:=by simp
 rw [ea] at hc;have hlt:d<g.n:=hd d rfl;refine Yl.call hr (hc.mono ?_);rintro e' w' ⟨y,rfl,hchg,Imm',o,hI,hnew,hR,hndo,hfr⟩;refine ⟨y,rfl,{ g with Imm:=fun b=>Imm' b },ck V d y,o,⟨rfl,rfl,rfl,rfl,rfl,hI,fun b hb => ?_⟩,fun b hb => ?_,fun b hb => ?_,by simpa using hchg,fun l hl=>bY hl,fun u=>cU hp.val hp.size hlt u,?_,hndo,fun b hb => ?_⟩
 ·rcases hnew b hb with h | h | h
  ·exact .inl h
  ·exact .inr (hp.own2 b (by simp [h]))
  ·exact .inr (.inl (bD hp.base h.1))
 ·rcases hnew b hb with h | h | h
  ·exact .inl h
  ·exact .inr (.inl (by simp [h]))
  ·exact .inr (.inr h.1)
 ·rcases hnew b hb with h | h | h
  ·exact am (hp.imm b (.inl h)) hchg.size
  ·exact am (hob b h).1 hchg.size
  ·exact h.2
 ·refine ⟨[],o,rfl,⟨by simp [R],trivial⟩,o,[],by simp,⟨?_,?_⟩,rfl⟩
  ·show R _ _ _ res (ck V d y (.slot d)) o;rw [cC];exact bV (g:=cz w Imm' (fun b=>g.Im b∨b∈oN)) (g':={ g with Imm:=fun b=>Imm' b }) (fun _ h=>h) res y o hcl (.inr hsh) hR
  ·cases res <;> first | trivial | (simp [dM] at hnb)
 ·obtain ⟨h1,h2,h3⟩:=hfr b hb;refine ⟨h1.imp (fun h=>by simp [h]) id,h2,?_⟩;rintro (h | h)
  ·exact h3 h
  ·rcases h1 with h1 | h1
   ·exact (hob b h1).2 (.inr (.inl h))
   ·exact absurd (hp.imm b (.inr h)) (by omega)
end
end Go.Abs
