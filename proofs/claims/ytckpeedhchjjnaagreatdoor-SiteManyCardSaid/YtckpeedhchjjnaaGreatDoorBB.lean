import Derived.Test.YtckpeedhchjjnaaGreatDoorBA
set_option linter.unusedVariables false
set_option linter.unusedSimpArgs false
namespace Go.Abs
theorem fN (z:Nat):uW (.v (.slice none 0 0)) (.fl .ro z []):=fun g V w x o h=>by
 simp only [R,bW] at *
 exact ⟨none,0,0,⟨h.1,aq _⟩,by simp,by simp,fun h=>absurd rfl h,h.2,fun h=>absurd rfl h⟩
section
variable {P:Program} {ty:TypeId} {pos:String} {aft:Array Edge} {gd:Option (Nat×Bool)}
theorem Eu {w:World} {E:TypeId} {v:Value} {xs:List Value} (h:ir w E v xs) (b:Nat) (hb:v.ownBlock=some b):0≤b∧b<w.heap.size:=by
 rcases h with ⟨rfl,_⟩ | ⟨b',k,n,cap,cur,fz,rfl,_,_,hh,_⟩
 ·cases hb
 ·cases hb
  exact ⟨Nat.zero_le _,(Array.getElem?_eq_some_iff.1 hh).1⟩
theorem um (N:List aJ) (d t i:Nat) {e T':TypeId} {o:Oper} (hod:o.dst=some d) (x:Operand) {cs:List AV} {xs zs:List Value} (hx:bm N x = .same (.cell t i)) (hc:cs.getD i .any = .mkr e xs) (hic:i<cs.length)
  (h1y:(∀ u∈xs,u.oneCell'=true)→∀ u∈zs,u.oneCell'=true)
  (hop:∀ (g:Gh) (V:bF→Value) (oN:List Nat) (a:Act) (w:World) (u0:Value),(∀ t,V (.slot t)=a.tmps.getD t undef)→Es g V w N oN→a.eval x=u0→ir w e u0 xs →
   ∃ v w',(execOp a.eval o).run P w = .ok (.value v) w'∧ir w' e v zs∧w.grownBy w' u0.ownBlock∧(v.ownBlock=u0.ownBlock∨v.ownBlock=some w.heap.size))
  (hdt:d≠t) (hcl:cW [.slot d] (cs.set i .any)=true) :
  bh P o N [(t,.box T' cs)] [(t,.box T' (cs.set i .any)),(d,.mkr e zs)] [.slot d]:=by
 obtain ⟨od,oop,oty,opos,oaft,ogd⟩:=o;dsimp only at hod;subst hod;refine bh.core fun g V oN oT a w hd hp => ?_;have hT':=hp.esT;simp only [Es] at hT';obtain ⟨ob,o2,rfl,hER,rfl⟩:=hT';obtain ⟨hR,htie⟩:=hER;have hax:=bE hp.val hp.esN x;rw [hx] at hax;simp only [R] at hax hR;obtain ⟨b,cur,os,hpt,rfl,hh,hrs⟩:=hR;dsimp only at htie;obtain ⟨o1,o3,hperm,hRi,hrest⟩:=fu i hrs hic;rw [hc] at hRi;have hlen:=aZ hrs;have hcell:=htie b hpt i hic;rw [cell_of_row w b i _ T' (0,0) hh] at hcell;have hil:i<cur.length:=by omega
 have hVc:V (.cell t i)=cur.getD i undef:=by simp only [List.getElem?_toArray,List.getElem?_eq_getElem hil,Option.some.injEq] at hcell;rw [← hcell]; simp [hil]
 obtain ⟨u0,hu0⟩:∃ u,u=cur.getD i undef:=⟨_,rfl⟩;rw [← hu0] at hVc hRi;simp only [R] at hRi
 have hone0:∀ u∈xs,u.oneCell'=true:=by
  rcases hRi with ⟨_,h0,_⟩ | ⟨b,k,n,cap,cur,fz,q3,hnc,hln,hone,_⟩
  ·subst h0; simp
  ·exact hone
 have hrow:ir w e u0 xs:=by
  rcases hRi with ⟨h1,h0,_⟩ | ⟨b,k,n,cap,cur,fz,q3,hnc,hln,_,hbb,hfz,hcap,htk,_⟩
  ·exact .inl ⟨h1,h0⟩
  ·exact .inr ⟨b,k,n,cap,cur,fz,q3,hnc,hln,hbb,hfz,hcap,htk⟩
 have hob:o1=u0.ownBlock.toList:=by
  rcases hRi with ⟨h1,h0,h2⟩ | ⟨b,k,n,cap,cur,fz,q3,_,_,_,_,_,_,_,h2⟩
  ·rw [h1,h2]; rfl
  ·rw [q3,h2]; rfl
 obtain ⟨v',w',hrun',hown',hg,hblk⟩:=hop g V oN a w u0 hp.val hp.esN (by rw [hax.1,hVc]) hrow;refine (Yl.val hrun').mono ?_;rintro v w2 ⟨rfl,rfl⟩;have hlt:d<g.n:=hd d rfl;have hchg:dq o1 w w2:=by rw [hob]; exact dq.of_grown hg
 have hin1:∀ c,c∈o1→c∈b::os:=fun c hc'=>by have:=hperm.mem_iff.2 (ak.2 (.inl hc')); simp [this]
 have hin3:∀ c,c∈o3→c∈b::os:=fun c hc'=>by have:=hperm.mem_iff.2 (ak.2 (.inr hc')); simp [this]
 have hinb:∀ c,c∈b::o3→c∈b::os:=by
  intro c hc';rcases aW.1 hc' with h | h
  ·simp [h]
  ·exact hin3 c h
 have hnd2:(b::os).Nodup:=by have:=(ag.1 hp.nodup).2.1; simpa using this
 have hnd3:(b::(o1++o3)).Nodup:=((hperm.cons b).nodup_iff).1 hnd2;have hlts:∀ c,c∈b::os→c<w.heap.size∧¬ g.imm c:=fun c hc'=>hp.own c (by simp at hc' ⊢; exact .inr hc')
 have hkeep:∀ c,c∈b::o3∨g.imm c→w2.heap[c]? = w.heap[c]? := by
  intro c hc';rcases hc' with hc' | hc'
  ·refine hchg.block c (hlts c (hinb c hc')).1 fun h1 => ?_;simp only [bI,ak,ag] at hnd3;rcases aW.1 hc' with rfl | h3
   ·exact hnd3.1 (.inl h1)
   ·exact hnd3.2.2.2 c h1 c h3 rfl
  ·exact hchg.block c (hp.imm c hc') fun h1=>(hlts c (hin1 c h1)).2 hc'
 have hdtl:∀ l,fq [.slot d] l=false→ck V d v l=V l:=fun l hl=>bY hl;refine ⟨g,ck V d v,(b::o3)++v.ownBlock.toList,g.le_refl,fun b hb => .inl hb,fun b hb=>am (hp.imm b (.inl hb)) hchg.size,?_,hdtl,fun u=>cU hp.val hp.size hlt u,?_,?_,?_⟩
 ·exact hchg.mono fun c hc'=>by simpa using hin1 c hc'
 ·have hVt:ck V d v (.slot t)=V (.slot t):=by simp only [ck]; rw [if_neg fun e=>hdt e.symm]
  have hVtc:∀ j,ck V d v (.cell t j)=V (.cell t j):=fun j=>rfl;refine ⟨b::o3,v.ownBlock.toList,rfl,⟨?_,?_⟩,v.ownBlock.toList,[],by simp,⟨?_,trivial⟩,rfl⟩
  ·show R g _ _ (.box T' _) (ck V d v (.slot t)) _;rw [hVt];simp only [R];refine ⟨b,cur,o3,hpt,rfl,by rw [hkeep b (.inl (by simp))]; exact hh,?_⟩;exact cq (W:=[.slot d]) (fun _ h=>h) (fun _ h=>h) hdtl _ _ _ hcl (fun c hc'=>hkeep c (hc'.imp (fun h=>by simp [h]) id)) hrest
  ·intro b' hb' j hj;rw [hVt] at hb';rw [hVtc]
   rw [World.cell?_of_block (w:=w) (by
    rw [hpt] at hb'; cases hb'
    exact hkeep b (.inl (by simp)))]
   exact htie b' hb' j (by simpa using hj)
  ·show R g _ _ _ (ck V d v (.slot d)) _;rw [cC];simp only [R];rcases hown' with ⟨h1,h2⟩ | ⟨b',k',n',cap',cur',fz',h1,hnc',hln',hbb',hfz',hcap',htk'⟩
   ·exact .inl ⟨h1,h2,by rw [h1]; rfl⟩
   ·exact .inr ⟨b',k',n',cap',cur',fz',h1,hnc',hln',fun u hu=>h1y hone0 u hu,hbb',hfz',hcap',htk',by rw [h1]; rfl⟩
 ·refine ag.2 ⟨?_,by cases v.ownBlock <;> simp,?_⟩
  ·have:(o1++(b::o3)).Nodup:=(List.perm_middle.nodup_iff).2 hnd3;exact (ag.1 this).2.1
  ·intro c hc' c2 hc2 e;subst e;have hvb:v.ownBlock=some c:=by cases hv:v.ownBlock <;> simp [hv] at hc2 ⊢; exact hc2.symm
   rcases hblk with h | h
   ·have hin:c∈o1:=by rw [hob,← h,hvb]; simp
    simp only [bI,ak,ag] at hnd3;rcases aW.1 hc' with rfl | h3
    ·exact hnd3.1 (.inl hin)
    ·exact hnd3.2.2.2 c hin c h3 rfl
   ·rw [hvb] at h
    cases h
    have:=(hlts w.heap.size (hinb _ hc')).1;omega
 ·intro c hc';rcases ak.1 hc' with hc' | hc'
  ·have h4:c∈b::os:=hinb c hc';exact ⟨.inl (by simpa using h4),am (hlts c h4).1 hchg.size,(hlts c h4).2⟩
  ·have hvb:v.ownBlock=some c:=by cases hv:v.ownBlock <;> simp [hv] at hc' ⊢; exact hc'.symm
   have hlt2:=(Eu hown' c hvb).2;rcases hblk with h | h
   ·have hin:c∈o1:=by rw [hob,← h,hvb]; simp
    exact ⟨.inl (by simpa using hin1 c hin),hlt2,(hlts c (hin1 c hin)).2⟩
   ·rw [hvb] at h
    cases h
    exact ⟨.inr (aq _),hlt2,fun hi=>Nat.lt_irrefl _ (hp.imm _ hi)⟩
theorem vS (N:List aJ) (d t i:Nat) {T e t' T':TypeId} (x y:Operand) {by_:Nat} {my:Md} {cs cs':List AV} {xs ys zs:List Value} {l m q:List Int} (hE:dO P T e 1 by_) (hx:bm N x = .same (.cell t i)) (hc:cs.getD i .any = .mkr e xs) (hic:i<cs.length) (hy:rd N y = .fl my 1 ys)
  (hl:l.map (Value.int .u8)=xs) (hm:m.map (Value.int .u8)=ys) (hq:cA by_ l m=some q) (hz:q.map (Value.int .u8)=zs) (hdt:d≠t) (hcs:cs.set i .any=cs') (hcl:cW [.slot d] cs'=true) :
  bh P ⟨some d,.call ⟨.builtin .append,#[x,y],#[T,T]⟩,t',pos,aft,gd⟩ N [(t,.box T' cs)] [(t,.box T' cs'),(d,.mkr e zs)] [.slot d]:=by
 subst hz hl hm hcs;unfold cA at hq;split at hq
 ·rename_i h
  cases hq
  refine um N d t i rfl x hx hc hic (fun _ u hu=>by obtain ⟨n,_,rfl⟩:=List.mem_map.1 hu; rfl) (fun g V oN a w u0 hval hes he0 hrow => ?_) hdt hcl;obtain ⟨o',_,hr⟩:=kt hval hes y;rw [hy] at hr;simp only [R] at hr;obtain ⟨A,m',c,⟨he,_⟩,hl,hone,hrd,_⟩:=hr;have:m'=m.length:=by simpa using hl.symm
  subst this;obtain ⟨v',w',hrun,hown',hg,hblk⟩:=Ac (P:=P) (ty:=t') (m:=m.length) (c:=c) hE (by simp) hrd hone u0 _ hrow (by simp only [maxLen,List.length_map]; omega) (by simpa using h.1);refine ⟨v',w',by simp [execOp,resolve,invoke,builtin,he,he0,hrun],by rw [List.map_append]; exact hown',hg,hblk⟩
 ·cases hq
theorem xm (N:List aJ) (d t i:Nat) {T e T':TypeId} (x y:Operand) {kd:IntKind} {cs cs':List AV} {xs zs:List Value} {l q:List Int} {k:Int} (hT:P.underlying T=some (.slice e)) (hz:(P.info? e).map (·.size)=some 1) (hx:bm N x = .same (.cell t i)) (hc:cs.getD i .any = .mkr e xs) (hic:i<cs.length) (hy:rd N y = .v (.int kd k))
  (hl:l.map (Value.int .u8)=xs) (hq:lf l k (l.length:Int)=some q) (hzs:q.map (Value.int .u8)=zs) (hdt:d≠t) (hcs:cs.set i .any=cs') (hcl:cW [.slot d] cs'=true) :
  bh P ⟨some d,.slice T x (some y) none none,ty,pos,aft,gd⟩ N [(t,.box T' cs)] [(t,.box T' cs'),(d,.mkr e zs)] [.slot d]:=by
 subst hzs hl hcs;unfold lf at hq;split at hq
 ·rename_i h;obtain ⟨k,rfl⟩:∃ n:Nat,k=(n:Int):=⟨k.toNat,by omega⟩;have hkl:k≤l.length:=by omega
  have hq':q=l.drop k:=by have:=ay hq;rw [← this,Int.toNat_natCast,Int.toNat_natCast];exact List.take_of_length_le (by simp)
  subst hq';refine um N d t i rfl x hx hc hic (fun _ u hu=>by obtain ⟨n,_,rfl⟩:=List.mem_map.1 hu; rfl) (fun g V oN a w u0 hval hes he0 hrow => ?_) hdt hcl;have hk:=bP hval hes hy;rcases hrow with ⟨rfl,h0⟩ | ⟨b,k0,n,cap,cur,fz,rfl,hnc,hln,hh,hfz,hcap,htk⟩
  ·have hk0:k=0:=by
    have:l=[]:=by simpa using h0
    subst this;simpa using hkl
   subst hk0;refine ⟨.slice none 0 0,w,?_,.inl ⟨rfl,by simpa using h0⟩,⟨rfl,rfl,rfl,aq _,fun _ _ _=>rfl⟩,.inl rfl⟩;simp [execOp,Instr.sliceAt,Instr.slice,run_underlying hT,he0,Instr.sliceBounds,Instr.sliceBound,asIntOf,hk,bu hz]
  ·have hn:l.length=n:=by simpa using hln
   have hkn:k≤n:=by omega
   have hkc:k≤cap:=by omega
   refine ⟨.slice (if cap-k=0 then some ⟨b,k0,none⟩ else (some ⟨b,k0,none⟩:Option Addr).map (·.add (k * 1))) (n-k) (cap-k),w,?_,?_,⟨rfl,rfl,rfl,aq _,fun _ _ _=>rfl⟩,?_⟩
   ·simp [execOp,Instr.sliceAt,Instr.slice,run_underlying hT,he0,Instr.sliceBounds,Instr.sliceBound,asIntOf,hk,bu hz,hkn,hkc];by_cases hz1:cap=k
    ·rw [if_pos hz1,if_pos (by omega)]
    ·rw [if_neg hz1,if_neg (by omega)]
   ·by_cases hz0:cap-k=0
    ·refine .inr ⟨b,k0,n-k,cap-k,cur,fz,by rw [if_pos hz0],by omega,by simp; omega,hh,hfz,by omega,?_⟩;rw [show n-k=0 by omega,List.take_zero,List.map_drop,List.drop_eq_nil_of_le (by simp; omega)]
    ·refine .inr ⟨b,k0+k,n-k,cap-k,cur,fz,by rw [if_neg hz0]; simp [cw],by omega,by simp; omega,hh,hfz,by omega,?_⟩;rw [List.map_drop,← htk,List.drop_take,List.drop_drop]
   ·split
    ·exact .inl rfl
    ·exact .inl (by simp [Value.ownBlock,cw])
 ·cases hq
def yC (u:Nat→Value):Nat→List AV→List Value
 | _,[]=>[]
 | i,.v y::cs=>y::yC u (i+1) cs
 | i,_::cs=>u i::yC u (i+1) cs
theorem zA {g:Gh} {V:bF→Value} {w:World} {u:Nat→Value}:∀ {cs:List AV} {xs:List Value} {o:List Nat} (i:Nat),Rs g V w cs xs o→(∀ j,j<xs.length→u (i+j)=xs.getD j undef)→yC u i cs=xs
 | [],xs,o,i,h,_=>by simp only [Rs] at h; rw [h.1]; rfl
 | c::cs,xs,o,i,h,hu=>by
  simp only [Rs] at h
  obtain ⟨x,xs',o1,o2,rfl,rfl,h1,h2⟩:=h
  have ih:=zA (u:=u) (i+1) h2 (fun j hj=>by
   have:=hu (j+1) (by simpa using hj)
   rw [show i+(j+1)=i+1+j by omega] at this
   simpa using this)
  have h0:u i=x:=by simpa using hu 0 (by simp)
  cases c with
  | v y=>simp only [R] at h1; simp only [yC,ih,h1.1]
  | _=>simp only [yC,ih,h0]
theorem zE {g:Gh} {V:bF→Value} {w:World}:∀ (xs:List Value),Rs g V w (xs.map AV.v) xs []
 | []=>by simp [Rs]
 | x::xs=>by
  simp only [List.map_cons,Rs]
  exact ⟨x,xs,[],[],rfl,rfl,by simp [R],zE xs⟩
theorem tC {g:Gh} {V:bF→Value} {w:World}:∀ {xs ys:List Value} {o:List Nat},Rs g V w (xs.map AV.v) ys o→ys=xs∧o=[]
 | [],ys,o,h=>by simpa [Rs] using h
 | x::xs,ys,o,h=>by
  simp only [List.map_cons,Rs] at h
  obtain ⟨y,ys',o1,o2,rfl,rfl,h1,h2⟩:=h
  simp only [R] at h1
  obtain ⟨rfl,rfl⟩:=tC h2
  exact ⟨by rw [h1.1],by rw [h1.2]; rfl⟩
theorem CF {g:Gh} {V:bF→Value} {w:World} {N:List aJ} {oN:List Nat} {a:Act} (hv:∀ t,V (.slot t)=a.tmps.getD t undef) (h:Es g V w N oN):∀ {ys:List Operand} {vs:List Value},ys.map (rd N)=vs.map AV.v→ys.map a.eval=vs
 | [],[],_=>rfl
 | y::ys,v::vs,he=>by
  simp only [List.map_cons,List.cons.injEq] at he ⊢
  exact ⟨bP hv h he.1,CF hv h he.2⟩
theorem Eb (N:List aJ) (d t:Nat) (f:FuncId) {cal x:Operand} {ys:List Operand} {args:Array Operand} {ats:Array TypeId} {T:TypeId} {cs:List AV} (vs:List Value) (res:AV) (hcal:rd N cal = .v (.func (.func f) #[] #[])) (hrun:∀ args w,(callFunc f args).run P w = .ok (.enter f args) w)
  (hargs:(x::ys).toArray=args) (hx:xR N x t=true) (hl:look N t = .box T cs) (hav:ys.map (rd N)=vs.map AV.v)
  (hf:∀ u:Nat→Value,mp P f (.box T ((yC u 0 cs).map AV.v)::vs.map AV.v) [.box T ((yC u 0 cs).map AV.v)] res) (hcl:bq res=true) (hclr:eh [.slot d] res=true) (hsh:eW res=true) :
  bh P ⟨some d,.call ⟨.value cal,args,ats⟩,ty,pos,aft,gd⟩ N [] [(d,res)] [.slot d]:=by
 subst hargs;refine bh.fresh rfl hclr fun g V oN a w hp => ?_;have hcv:=bP hp.val hp.esN hcal
 have hr:(execOp a.eval ⟨some d,.call ⟨.value cal,(x::ys).toArray,ats⟩,ty,pos,aft,gd⟩).run P w = .ok (.enter f ((x::ys).toArray.map a.eval)) w:=by simp [execOp,resolve,hcv,Deferred.ofValue,invoke,hrun]
 have hxe:a.eval x=V (.slot t):=ov hp.val hp.esN hx;obtain ⟨o',hs,hE,_⟩:=cE hp.esN t;dsimp only at hE;rw [hl] at hE;simp only [R] at hE;obtain ⟨b,xs0,os,hpt,rfl,hh,hrs⟩:=hE;have hbo:=hp.own b (by simp [hs b (by simp)]);have hpin:=zA (u:=fun i=>xs0.getD i undef) 0 hrs (fun j _=>by simp);have hf:=hf (fun i=>xs0.getD i undef);rw [hpin] at hf
 have hR:Rs (cz w g.Imm g.Im) V0 w (.box T (xs0.map AV.v)::vs.map AV.v) ((x::ys).map a.eval) [b]:=by rw [List.map_cons,CF hp.val hp.esN hav,hxe];simp only [Rs];refine ⟨_,_,[b],[],rfl,rfl,?_,zE vs⟩;simp only [R];exact ⟨b,xs0,[],hpt,rfl,hh,zE xs0⟩
 have hc:=hf g.Imm g.Im w _ [b] (fun c hc=>hp.imm c hc) hR (by simp) (fun c hc=>by
  obtain rfl:c=b:=by simpa using hc
  exact hbo)
 have ea:((x::ys).map a.eval).toArray=(x::ys).toArray.map a.eval:=by simp
 rw [ea] at hc;refine Yl.call hr (hc.mono ?_);rintro e' w' ⟨y,rfl,hchg,Imm',o,hI,hnew,hRr,hndo,hfr⟩;have htake:((x::ys).map a.eval).take 1=[V (.slot t)]:=by simp [hxe]
 simp only [List.length_cons,List.length_nil,Nat.zero_add,htake,Rs] at hRr;obtain ⟨y',iD,o1,o2,hyv,rfl,hR1,y2,vals2,o3,o4,hy2,rfl,hR2,hv2,rfl⟩:=hRr;obtain ⟨rfl,rfl⟩:=List.cons.inj hyv;obtain ⟨rfl,rfl⟩:=List.cons.inj hy2;simp only [R] at hR2;obtain ⟨b2,xs2,os2,hpt2,rfl,hh2,hrs2⟩:=hR2;rw [hpt] at hpt2
 cases hpt2
 obtain ⟨rfl,rfl⟩:=tC hrs2;have hsame:w'.heap[b]? = w.heap[b]? := by rw [hh,hh2]
 have hchg':dq [] w w':=⟨hchg.os,hchg.tape,hchg.output,hchg.size,fun k hk _=>by
  by_cases hkb:k=b
  ·rw [hkb]; exact hsame
  ·exact hchg.block k hk (by simpa using hkb)⟩
 have hbI:¬ Imm' b:=(hfr b (by simp)).2.2
 have hnew':∀ c,Imm' c→g.Imm c∨(w.heap.size≤c∧c<w'.heap.size):=by
  intro c hc';rcases hnew c hc' with h | h | h
  ·exact .inl h
  ·exact absurd hc' (by rw [show c=b by simpa using h]; exact hbI)
  ·exact .inr h
 refine ⟨y,rfl,hchg',{ g with Imm:=Imm' },o1,⟨rfl,rfl,rfl,rfl,rfl,hI,fun c hc' => ?_⟩,hnew',?_,(ag.1 hndo).1,?_⟩
 ·rcases hnew' c hc' with h | h
  ·exact .inl h
  ·exact .inr (.inl (bD hp.base h.1))
 ·exact bV (g:=cz w Imm' g.Im) (g':={ g with Imm:=Imm' }) (fun _ h=>h) res y o1 hcl (.inr hsh) hR1
 ·intro c hc';have h1:=hfr c (by simp [hc']);refine ⟨?_,h1.2.1,h1.2.2⟩;rcases h1.1 with h | h
  ·have:c=b:=by simpa using h
   subst this;exact absurd rfl ((ag.1 hndo).2.2 c hc' c (by simp))
  ·exact h
end
inductive Dp:Nat→List Oper→List Oper→Prop
 | z {l:List Oper}:Dp 0 l l
 | s {n:Nat} {o:Oper} {l l':List Oper}:Dp n l l'→Dp (n+1) (o::l) l'
section
variable {P:Program} {Q:Exit→Act→World→Prop} {g0:Gh} {rnd:Option Nat} {ops:Array Oper}
end
end Go.Abs
