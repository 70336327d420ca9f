import Derived.Laws.Slices
import Derived.Lib.SlBytesConst
import Derived.Laws.BytesString
import Derived.Laws.BytesArg
import Derived.Test.YtckpeedhchjjnaaGreatDoorA1
section
namespace Go.Abs
section
variable {g:Gh} {V:bF→Value} {w:World}
theorem cJ:∀ {cs ds:List AV} {xs:List Value} {o:List Nat},Rs g V w (cs++ds) xs o↔∃ x1 x2 o1 o2,xs=x1++x2∧o=o1++o2∧Rs g V w cs x1 o1∧Rs g V w ds x2 o2
 | [],ds,xs,o=>by
  constructor
  ·intro h; exact ⟨[],xs,[],o,rfl,rfl,by simp [Rs],h⟩
  ·rintro ⟨x1,x2,o1,o2,rfl,rfl,h1,h2⟩
   simp only [Rs] at h1
   obtain ⟨rfl,rfl⟩:=h1
   exact h2
 | c::cs,ds,xs,o=>by
  constructor
  ·intro h
   simp only [List.cons_append,Rs] at h
   obtain ⟨x,xs',o1,o2,rfl,rfl,h1,h2⟩:=h
   obtain ⟨x1,x2,o3,o4,rfl,rfl,h3,h4⟩:=cJ.1 h2
   exact ⟨x::x1,x2,o1++o3,o4,rfl,by simp,by simp only [Rs]; exact ⟨x,x1,o1,o3,rfl,rfl,h1,h3⟩,h4⟩
  ·rintro ⟨x1,x2,o1,o2,rfl,rfl,h1,h2⟩
   simp only [Rs] at h1
   obtain ⟨x,xs',o3,o4,rfl,rfl,h3,h4⟩:=h1
   simp only [List.cons_append,Rs]
   exact ⟨x,xs'++x2,o3,o4++o2,rfl,by simp,h3,cJ.2 ⟨xs',x2,o4,o2,rfl,rfl,h4,h2⟩⟩
end
theorem BQ {b:Nat} {oV o1 o2 o3:List Nat} (h:(oV++(b::(o1++(o2++o3)))).Nodup):(b::(o1++(oV++o3))).Nodup:=by
 have p:(oV++(b::(o1++(o2++o3)))).Perm ((b::(o1++(oV++o3)))++o2):=by rw [List.perm_iff_count];intro a;simp only [List.count_append,List.count_cons];omega
 exact (List.nodup_append.1 (p.nodup_iff.1 h)).1
theorem gW (w:World) (b:Nat) (cs:Array Value):dq [b] w (w.setRow b cs) :=
 ⟨rfl,rfl,rfl,by simp [World.setRow],fun k _ hk=>setRow_other w b k cs (fun e=>hk (by simp [e]))⟩
def cH (t off s:Nat):List bF:=(List.range s).map fun i => .cell t (off+i)
theorem Cc {t off s:Nat} {l:bF} (h:fq (cH t off s) l=false):∀ i,off≤i→i<off+s→l ≠ .cell t i:=by intro i h1 h2 e;subst e;simp only [fq,cH,List.any_eq_false] at h;have:=h (.cell t i) (List.mem_map.2 ⟨i-off,by simp; omega,by congr 1; omega⟩);simp at this
def rP (V:bF→Value) (t off:Nat) (vs:List Value):bF→Value
 | .slot u=>V (.slot u)
 | .cell u i=>if u=t∧off≤i∧i<off+vs.length then vs.getD (i-off) undef else V (.cell u i)
theorem zO {V:bF→Value} {t off:Nat} {vs:List Value} {l:bF} (h:fq (cH t off vs.length) l=false):rP V t off vs l=V l:=by
 cases l with
 | slot u=>rfl
 | cell u i =>
  simp only [rP];rw [if_neg];rintro ⟨rfl,h1,h2⟩;exact Cc h i h1 h2 rfl
section
variable {P:Program} {ty:TypeId} {pos:String} {aft:Array Edge} {gd:Option (Nat×Bool)}
theorem vl (N TV:List aJ) {T:TypeId} (ax vx:Operand) {T':TypeId} {cs:List AV} (t off s:Nat) (av:AV) (cs':List AV) (hs:(P.info? T).map (·.size)=some s)
  (hx:bm (N++[(t,.box T' cs)]) ax = .ptr t off)
  (hv:∀ (g:Gh) (V:bF→Value) (oN oV:List Nat) (a:Act) (w:World),(∀ t,V (.slot t)=a.tmps.getD t undef)→Es g V w N oN→Es g V w TV oV→R g V w av (a.eval vx) oV)
  (hok:dB (N++TV) av=true) (hlen:(cQ av).length=s) (hfit:off+s≤cs.length) (hcs:cs.take off++(cQ av++cs.drop (off+s))=cs') (hcl:cW (cH t off s) cs'=true) :
  bh P ⟨none,.store T ax vx,ty,pos,aft,gd⟩ N (TV++[(t,.box T' cs)]) [(t,.box T' cs')] (cH t off s):=by
 subst hcs;refine bh.core fun g V oN oT a w hd hp => ?_;obtain ⟨oV,oB,rfl,hV,hB⟩:=aT.1 hp.esT;have hB':Es g V w [(t,.box T' cs)] oB:=hB;simp only [Es] at hB;obtain ⟨ob,o2,rfl,hER,rfl⟩:=hB;have hlk:look [(t,AV.box T' cs)] t = .box T' cs:=by simp [look]
 obtain ⟨b,xs,os,h3,hh,hrs,hnm,_⟩:=qj hB' hlk;have hobe:ob=b::os∨True := .inr trivial

 obtain ⟨hR1,htie⟩:=hER
 simp only [R] at hR1
 obtain ⟨b1,xs1,os1,h31,rfl,hh1,hrs1⟩:=hR1
 rw [h3] at h31; cases h31
 rw [hh] at hh1
 have hxs:xs=xs1:=by injection hh1 with hh1; injection hh1 with hh1; simpa using congrArg Array.toList hh1
 subst hxs
 clear hrs hh1
 have hax:=bE hp.val (aT.2 ⟨oN,_,rfl,hp.esN,hB'⟩) ax
 rw [hx] at hax
 simp only [R] at hax
 obtain ⟨b2,h4,h5,_⟩:=hax
 rw [h3] at h4; cases h4
 have hval:=hv g V oN oV a w hp.val hp.esN hV
 have hNV:Es g V w (N++TV) (oN++oV):=aT.2 ⟨_,_,rfl,hp.esN,hV⟩
 obtain ⟨hvc,hone⟩:=lG hNV hok hval
 have hl1:=aZ hvc
 have hl2:=aZ hrs1
 have hrun:(execOp a.eval ⟨none,.store T ax vx,ty,pos,aft,gd⟩).run P w = .ok .skip (w.setRow b (xs.take off++(a.eval vx).cells.toList++xs.drop (off+s)).toArray):=by
  have:=gn (P:=P) (w:=w) (T:=T) (off:=off) hs hh (v:=a.eval vx) (by rw [← hlen,← hl1]; simp) hone (by omega)
  simp [execOp,Instr.storeAt,h5,Instr.sureAddr,this]
 refine (Yl.skip hrun).mono ?_
 rintro y w' ⟨rfl,rfl⟩
 have hnd:=hp.nodup
 have hbT:∀ c,c∈oV++((b::os1)++[])→c<w.heap.size:=fun c hc=>(hp.own c (by simp at hc ⊢; rcases hc with h | h | h <;> simp [h])).1
 have hchg:dq [b] w (w.setRow b (xs.take off++(a.eval vx).cells.toList++xs.drop (off+s)).toArray):=gW _ _ _
 have hblk:∀ c,c≠b→(w.setRow b (xs.take off++(a.eval vx).cells.toList++xs.drop (off+s)).toArray).heap[c]? = w.heap[c]? := fun c hc=>setRow_other w b c _ hc
 have hvl:(a.eval vx).cells.toList.length=s:=by rw [hl1,hlen]
 have hV':∀ l,fq (cH t off s) l=false→rP V t off (a.eval vx).cells.toList l=V l:=fun l hl=>zO (by rw [hvl]; exact hl)

 have hsplit:cs=cs.take off++((cs.drop off).take s++cs.drop (off+s)):=by
  rw [← List.drop_drop,List.take_append_drop,List.take_append_drop]
 rw [hsplit] at hrs1
 obtain ⟨x1,x23,o1,o23,hx123,ho123,hc1,hc23⟩:=cJ.1 hrs1
 obtain ⟨x2,x3,o2',o3,rfl,rfl,hc2,hc3⟩:=cJ.1 hc23
 have e1:xs.take off=x1:=by
  have:x1.length=off:=by rw [aZ hc1]; simp; omega
  rw [hx123,← this]; simp
 have e3:xs.drop (off+s)=x3:=by
  have h6:x1.length=off:=by rw [aZ hc1]; simp; omega
  have h7:x2.length=s:=by rw [aZ hc2]; simp; omega
  rw [hx123,← h6,← h7,← List.append_assoc,← List.length_append]; simp
 rw [mN,mN,Bool.and_eq_true,Bool.and_eq_true] at hcl
 have hbo:b ∉ os1:=by
  have:=(List.nodup_append.1 hnd).2.1
  have:=(List.nodup_append.1 this).2.1
  simp at this; exact this.1
 have hbV:b ∉ oV:=by
  intro hc
  have:=(List.nodup_append.1 hnd).2.1
  exact (List.nodup_append.1 this).2.2 b hc b (by simp) rfl
 have hbi:¬ g.imm b:=(hp.own b (by simp)).2
 have st:∀ (ds:List AV) (ys:List Value) (od:List Nat),cW (cH t off s) ds=true→(∀ c∈od,c∈os1∨c∈oV)→Rs g V w ds ys od →
   Rs g (rP V t off (a.eval vx).cells.toList) (w.setRow b (xs.take off++(a.eval vx).cells.toList++xs.drop (off+s)).toArray) ds ys od:=by
  intro ds ys od hc hod hr
  refine cq (W:=cH t off s) (fun _ h=>h) (fun _ h=>h) hV' ds ys od hc (fun c hcc=>hblk c ?_) hr
  rcases hcc with hcc | hcc
  ·rintro rfl
   rcases hod _ hcc with h | h
   ·exact hbo h
   ·exact hbV h
  ·rintro rfl; exact hbi hcc
 have hnew:=cJ.2 ⟨_,_,_,_,rfl,rfl,st _ _ _ hcl.1 (fun c hc => .inl (by rw [ho123]; simp [hc])) hc1,cJ.2 ⟨_,_,_,_,rfl,rfl,st _ _ _ hcl.2.1 (fun c hc => .inr hc) hvc,st _ _ _ hcl.2.2 (fun c hc => .inl (by rw [ho123]; simp [hc])) hc3⟩⟩
 have hsub:∀ c,c∈b::(o1++(oV++o3))→c∈oV++(b::os1++[]):=by
  intro c hc
  rw [ho123]
  simp at hc ⊢
  rcases hc with h | h | h | h <;> simp [h]
 refine ⟨g,rP V t off (a.eval vx).cells.toList,b::(o1++(oV++o3)),g.le_refl,fun c hc => .inl hc,fun c hc => ?_,hchg.mono (by simp),hV',?_,?_,?_,?_⟩
 ·exact Nat.lt_of_lt_of_le (hp.imm c (.inl hc)) hchg.size
 ·intro u; simp only [rP,Act.put]; exact hp.val u
 ·refine ⟨b::(o1++(oV++o3)),[],by simp,⟨?_,?_⟩,rfl⟩
  ·show R _ _ _ (.box T' _) (rP V t off _ (.slot t)) _
   simp only [R,rP]
   refine ⟨b,x1++((a.eval vx).cells.toList++x3),_,h3,rfl,?_,hnew⟩
   rw [e1,e3,List.append_assoc]
   exact setRow_heap w b _ _ T' _ hh
  ·intro b' hb' i hi
   simp only [rP] at hb'
   rw [h3] at hb'; cases hb'
   have hhn:=setRow_heap w b xs.toArray (xs.take off++(a.eval vx).cells.toList++xs.drop (off+s)).toArray T' _ hh
   rw [cell_of_row _ b i _ T' (0,0) hhn]
   simp only [List.getElem?_toArray,rP,true_and]
   have hxl:(xs.take off).length=off:=by simp; omega
   have hi':i<xs.length:=by
    simp only [List.length_append,List.length_take,List.length_drop,hlen] at hi; omega
   by_cases h6:off≤i∧i<off+(a.eval vx).cells.toList.length
   ·rw [if_pos h6,List.append_assoc,List.getElem?_append_right (by omega),hxl,List.getElem?_append_left (by omega)]
    have:i-off<(a.eval vx).cells.toList.length:=by omega
    simp [List.getD_eq_getElem?_getD,List.getElem?_eq_getElem this]
   ·rw [if_neg h6]
    have hold:xs[i]? = some (V (.cell t i)):=by
     rw [List.getElem?_eq_getElem hi',hnm i _ (List.getElem?_eq_getElem hi')]
    rw [← hold]
    by_cases h7:i<off
    ·rw [List.append_assoc,List.getElem?_append_left (by omega),List.getElem?_take,if_pos h7]
    ·rw [List.getElem?_append_right (by rw [List.length_append,hxl]; omega),List.getElem?_drop]
     congr 1
     simp only [List.length_append,hxl]; omega
 ·have h6:=(List.nodup_append.1 hnd).2.1
  simp only [List.append_nil] at h6
  rw [ho123] at h6
  exact BQ h6
 ·intro c hc
  have h6:=hsub c hc
  exact ⟨.inl h6,Nat.lt_of_lt_of_le (hbT c (by simpa using h6)) hchg.size,(hp.own c (by simp at h6 ⊢; rcases h6 with h | h | h <;> simp [h])).2⟩
theorem dW (N:List aJ) {T:TypeId} (ax vx:Operand) {T':TypeId} {cs:List AV} (t off s:Nat) (av:AV) (cs':List AV) (hs:(P.info? T).map (·.size)=some s)
  (hx:bm (N++[(t,.box T' cs)]) ax = .ptr t off) (hv:bm N vx=av) (hok:dB N av=true) (hlen:(cQ av).length=s) (hfit:off+s≤cs.length)
  (hcs:cs.take off++(cQ av++cs.drop (off+s))=cs') (hcl:cW (cH t off s) cs'=true) :
  bh P ⟨none,.store T ax vx,ty,pos,aft,gd⟩ N [(t,.box T' cs)] [(t,.box T' cs')] (cH t off s) :=
 vl N [] ax vx t off s av cs' hs hx (fun g V oN oV a w hval hN hV=>by
  simp only [Es] at hV; subst hV; rw [← hv]; exact bE hval hN vx) (by simpa using hok) hlen hfit hcs hcl
theorem aD (N:List aJ) {T:TypeId} (ax:Operand) (u:Nat) {T':TypeId} {cs:List AV} (t off s:Nat) (av:AV) (cs':List AV) (hs:(P.info? T).map (·.size)=some s)
  (hx:bm (N++[(t,.box T' cs)]) ax = .ptr t off) (hok:dB (N++[(u,av)]) av=true) (hlen:(cQ av).length=s) (hfit:off+s≤cs.length)
  (hcs:cs.take off++(cQ av++cs.drop (off+s))=cs') (hcl:cW (cH t off s) cs'=true) :
  bh P ⟨none,.store T ax (.tmp u),ty,pos,aft,gd⟩ N [(u,av),(t,.box T' cs)] [(t,.box T' cs')] (cH t off s) :=
 vl N [(u,av)] ax (.tmp u) t off s av cs' hs hx (fun g V oN oV a w hval hN hV=>by
  simp only [Es] at hV
  obtain ⟨o1,o2,rfl,⟨hr,_⟩,rfl⟩:=hV
  simp only [Act.eval,← hval,List.append_nil]; exact hr) hok hlen hfit hcs hcl
end
end Go.Abs
end
section
namespace Go.Abs
section
variable {P:Program}
theorem qM {w:World} {E:TypeId} {z n:Nat} {x:Value} {xs:List Value} (h:w.ownsRow 0 E z x n xs) (hne:xs≠[]) :
  ∃ b c cur,x = .slice (some ⟨b,0,none⟩) n c∧w.heap[b]? = some (.cells cur E (0,0))∧n≤c∧c≤maxLen∧cur.size=c * z∧cur.toList.take (n * z)=xs∧xs.length=n * z:=by
 rcases h.2 with ⟨_,h1⟩ | ⟨b,c,cur,h1,_,h2,h3,h4,h5,h6⟩
 ·exact absurd (List.eq_nil_of_length_eq_zero (by rw [h.1,h1]; simp)) hne
 ·exact ⟨b,c,cur,h1,h2,h3,h4,h5,h6,h.1⟩
theorem fw {g:Gh} {V:bF→Value} {w:World} {E:TypeId} {z n:Nat} {x:Value} {xs:List Value} (h:w.ownsRow 0 E z x n xs) (h1:∀ u∈xs,u.oneCell'=true) :
  R g V w (.fl (.own E) z xs) x (x.ownBlock).toList:=by
 simp only [R,bW];rcases h.2 with ⟨rfl,hn⟩ | ⟨b,c,cur,rfl,_,h2,h3,h4,h5,h6⟩
 ·subst hn;have:xs=[]:=List.eq_nil_of_length_eq_zero (by rw [h.1]; simp);subst this;exact ⟨none,0,0,⟨rfl,aq _⟩,h.1,h1,fun hne=>absurd rfl hne,h,trivial⟩
 ·exact ⟨some ⟨b,0,none⟩,n,c,⟨rfl,h3⟩,h.1,h1,fun _=>⟨⟨b,0,none⟩,rfl,fun j u hu=>h.cells (by simp [Value.ownBlock]) j u hu⟩,h,trivial⟩
theorem sy (l vs:List Value) (k i:Nat) (h:k+vs.length≤l.length) :
  (l.take k++(vs++l.drop (k+vs.length)))[i]? = if i<k then l[i]? else if i<k+vs.length then vs[i-k]? else l[i]? := by
 have e1:(l.take k).length=k:=by simp; omega
 by_cases h1:i<k
 ·rw [if_pos h1,List.getElem?_append_left (by omega),List.getElem?_take,if_pos h1]
 ·rw [if_neg h1,List.getElem?_append_right (by omega),e1];by_cases h2:i<k+vs.length
  ·rw [if_pos h2,List.getElem?_append_left (by omega)]
  ·rw [if_neg h2,List.getElem?_append_right (by omega),List.getElem?_drop];congr 1;omega
theorem ul {w:World} {E:TypeId} {z n c b:Nat} {cur:Array Value} {xs vs:List Value} (k:Nat) (hb:w.heap[b]? = some (.cells cur E (0,0))) (hnc:n≤c) (hcm:c≤maxLen) (hsz:cur.size=c * z)
  (htk:cur.toList.take (n * z)=xs) (hl:xs.length=n * z) (hfit:k+vs.length≤xs.length) :
  (w.setRow b (cur.toList.take k++vs++cur.toList.drop (k+vs.length)).toArray).ownsRow 0 E z (.slice (some ⟨b,0,none⟩) n c) n (xs.take k++(vs++xs.drop (k+vs.length))):=by
 have hcl:cur.toList.length=c * z:=by simpa using hsz
 have hle:n * z≤c * z:=Nat.mul_le_mul_right _ hnc;refine ⟨?_,.inr ⟨b,c,_,rfl,Nat.zero_le _,setRow_heap w b cur _ E _ hb,hnc,hcm,?_,?_⟩⟩
 ·simp only [List.length_append,List.length_take,List.length_drop]; omega
 ·simp only [List.size_toArray,List.length_append,List.length_take,List.length_drop]; omega
 ·subst htk;simp only [List.length_take] at hl hfit;apply List.ext_getElem?;intro i;simp only [ar];rw [List.getElem?_take,sy _ _ _ _ (by omega),sy _ _ _ _ (by simp; omega)];simp only [List.getElem?_take];by_cases hi:i<n * z
  ·simp [hi]
  ·have h1:¬ i<k:=by omega
   have h2:¬ i<k+vs.length:=by omega
   simp [hi,h1,h2]
def tY (N:List aJ) (x:Operand):Option (List Value) :=
 match bm N x with
 | .v y=>if y.oneCell' then some [y] else match y with | .agg cs=>if cs.all (·.oneCell') then some cs.toList else none | _=>none
 | .agg cs=>cs.mapM fun | .v y=>if y.oneCell' then some y else none | _=>none
 | _=>none
theorem yc {g:Gh} {V:bF→Value} {w:World}:∀ {cs:List AV} {vs xs:List Value} {o:List Nat},(cs.mapM fun | .v y=>if y.oneCell' then some y else none | _=>(none:Option Value))=some vs→Rs g V w cs xs o→xs=vs∧∀ u∈vs,u.oneCell'=true
 | [],vs,xs,o,h,hr=>by
  simp at h; subst h
  simp only [Rs] at hr
  exact ⟨hr.1,by simp⟩
 | c::cs,vs,xs,o,h,hr=>by
  simp only [Rs] at hr
  obtain ⟨x,xs',o1,o2,rfl,rfl,h1,h2⟩:=hr
  rw [List.mapM_cons] at h
  cases c <;> simp at h
  case v y =>
   simp only [R] at h1
   by_cases hy:y.oneCell'=true
   ·simp only [hy,if_true] at h
    cases hm:(cs.mapM fun | .v y=>if y.oneCell' then some y else none | _=>(none:Option Value)) with
    | none=>rw [hm] at h; simp at h
    | some vs' =>
     rw [hm] at h
     simp at h; subst h
     obtain ⟨h3,h4⟩:=yc hm h2
     subst h3
     exact ⟨by rw [h1.1],by simpa [hy] using h4⟩
   ·simp [hy] at h
theorem vr {g:Gh} {V:bF→Value} {w:World} {N:List aJ} {oN:List Nat} {a:Act} (hv:∀ t,V (.slot t)=a.tmps.getD t undef) (h:Es g V w N oN) {x:Operand} {vs:List Value} (hx:tY N x=some vs) :
  (a.eval x).cells.toList=vs∧∀ u∈vs,u.oneCell'=true:=by
 have hr:=bE hv h x;unfold tY at hx;split at hx
 ·rename_i y hy;rw [hy] at hr;simp only [R] at hr;rw [hr.1];split at hx
  ·rename_i h1
   cases hx
   cases y <;> first | (simp [Value.oneCell'] at h1; done) | (simp [Value.cells,h1])
  ·split at hx
   ·rename_i cs h2;split at hx
    ·rename_i h3
     cases hx
     simp only [Array.all_eq_true_iff_forall_mem] at h3;exact ⟨rfl,fun u hu=>h3 u (by simpa using hu)⟩
    ·cases hx
   ·cases hx
 ·rename_i cs hy;rw [hy] at hr;simp only [R] at hr;obtain ⟨xs,he,hrs⟩:=hr;obtain ⟨h1,h2⟩:=yc hx hrs;rw [he];exact ⟨by simpa [Value.cells] using h1,h2⟩
 ·cases hx
section
variable {ty:TypeId} {pos:String} {aft:Array Edge} {gd:Option (Nat×Bool)}
theorem fa (N:List aJ) {T:TypeId} (ax vx:Operand) {E:TypeId} {z:Nat} {xs:List Value} (t k s:Nat) (vs xs':List Value) (hs:(P.info? T).map (·.size)=some s)
  (hx:bm (N++[(t,.fl (.own E) z xs)]) ax = .eref (.slot t) k) (hv:tY N vx=some vs) (hlen:vs.length=s) (h0:0<s) (hfit:k+s≤xs.length) (hxs:xs.take k++(vs++xs.drop (k+s))=xs') :
  bh P ⟨none,.store T ax vx,ty,pos,aft,gd⟩ N [(t,.fl (.own E) z xs)] [(t,.fl (.own E) z xs')] []:=by
 subst hxs;refine bh.core fun g V oN oT a w hd hp => ?_;have hT:=hp.esT;simp only [Es] at hT;obtain ⟨ob,o2,rfl,⟨hR,_⟩,rfl⟩:=hT;have hax:=bE hp.val (aT.2 ⟨oN,_,rfl,hp.esN,hp.esT⟩) ax;rw [hx] at hax;simp only [R] at hax hR;obtain ⟨ad,n1,c1,h1,h2,_⟩:=hax;obtain ⟨a0,n,c,⟨h3,_⟩,hl,hone,_,hown,hob⟩:=hR;have hne:xs≠[]:=fun e=>by subst e; simp at hfit; omega
 obtain ⟨b,c',cur,h4,hb,hnc,hcm,hsz,htk,_⟩:=qM hown hne;rw [h1] at h3 h4
 cases h4
 cases h3
 obtain ⟨hvc,hvo⟩:=vr hp.val hp.esN hv
 have hrun:(execOp a.eval ⟨none,.store T ax vx,ty,pos,aft,gd⟩).run P w = .ok .skip (w.setRow b (cur.toList.take k++vs++cur.toList.drop (k+vs.length)).toArray):=by have hcl:=(by simpa using hsz:cur.toList.length=_);have:=Nat.mul_le_mul_right z hnc;have:=gn (P:=P) (w:=w) (T:=T) (off:=k) hs (cur:=cur.toList) (E:=E) (by simpa using hb) (v:=a.eval vx) (by rw [← hlen,← hvc]; simp) (by rw [hvc]; exact hvo) (by omega);rw [hvc] at this;rw [cw,Nat.zero_add] at h2;simp [execOp,Instr.storeAt,h2,Instr.sureAddr,this,hlen]
 refine (Yl.skip hrun).mono ?_;rintro y w' ⟨rfl,rfl⟩;have hnew:=ul (w:=w) (vs:=vs) k hb hnc hcm hsz htk hl (by omega);rw [hlen] at hnew
 have hone':∀ u∈xs.take k++(vs++xs.drop (k+s)),u.oneCell'=true:=by
  intro u hu;simp only [ak] at hu;rcases hu with hu | hu | hu
  ·exact hone u (List.mem_of_mem_take hu)
  ·exact hvo u hu
  ·exact hone u (List.mem_of_mem_drop hu)
 have hchg:dq [b] w (w.setRow b (cur.toList.take k++vs++cur.toList.drop (k+vs.length)).toArray):=gW _ _ _;have hob':ob=[b]:=by rw [hob,h1]; rfl
 refine ⟨g,V,ob,g.le_refl,fun c hc => .inl hc,fun c hc=>am (hp.imm c (.inl hc)) hchg.size,hchg.mono (by rw [hob']; simp),fun _ _=>rfl,fun u=>by simp only [Act.put]; exact hp.val u,?_,?_,?_⟩
 ·refine ⟨ob,[],by simp,⟨?_,trivial⟩,rfl⟩;dsimp only;rw [h1,hob'];rw [← hlen] at hnew ⊢;exact fw hnew (by rw [hlen]; exact hone')
 ·exact (ag.1 (ag.1 hp.nodup).2.1).1
 ·intro c hc;have:=hp.own c (by simp [hc]);exact ⟨.inl (by simp [hc]),am this.1 hchg.size,this.2⟩
theorem yB (N:List aJ) (d:Nat) {T e:TypeId} (x y:Operand) {kl kc:IntKind} (n:Nat) {i:TypeInfo} (zv:Value) (hT:P.underlying T=some (.slice e)) (hi:P.info? e=some i) (hz:i.zero=some zv) (hs:i.size=1) (hzc:zv.oneCell'=true)
  (hx:rd N x = .v (.int kl (n:Int))) (hy:rd N y = .v (.int kc (n:Int))) (h0:0<i.bytes) (hb:i.bytes * n≤140737488355328) :
  bh P ⟨some d,.makeSlice T x y,ty,pos,aft,gd⟩ N [] [(d,.fl (.own e) 1 (List.replicate n zv))] [.slot d]:=by
 refine bh.fresh rfl rfl fun g V oN a w hp => ?_;have h1:=bP hp.val hp.esN hx;have h2:=bP hp.val hp.esN hy;by_cases hn:n≤maxLen
 ·obtain ⟨w',hr,hown,hg⟩:=run_make_full (P:=P) w 0 T e i zv 1 hT hi hz hs kl kc n (by omega) hn (Nat.zero_le _);have hcells:zv.cells = #[zv]:=by cases zv <;> first | rfl | simp [Value.oneCell'] at hzc
  rw [hcells,Nat.mul_one,toList_madeCells_one] at hown;refine (Yl.val (by simp [execOp,h1,h2,hr]:(execOp a.eval ⟨some d,.makeSlice T x y,ty,pos,aft,gd⟩).run P w = .ok (.value (.slice (some ⟨w.heap.size,0,none⟩) n n)) w')).mono ?_;rintro v w2 ⟨rfl,rfl⟩;refine ⟨(dq.of_grown hg).mono (by simp),g,[w.heap.size],g.le_refl,fun b hb => .inl hb,?_,by simp,?_⟩
  ·exact fw hown (fun u hu=>by rw [(List.mem_replicate.1 hu).2]; exact hzc)
  ·intro b hb;simp at hb; subst hb;exact ⟨aq _,(hown.lt _ rfl).2,fun hi=>Nat.lt_irrefl _ (hp.imm _ (.inl hi))⟩
 ·exfalso;have:=Nat.le_mul_of_pos_left n h0;simp only [maxLen] at hn;omega
end
end
end Go.Abs
end
section
namespace Go.Abs
section
variable {P:Program}
theorem tF {w:World} (t ty e:TypeId) (i:TypeInfo) (size:Nat) (ht:P.underlying t=some (.slice e)) (hi:P.info? e=some i) (c:Nat)
  (v:Value) (n:Nat) (xs:List Value) (hown:w.ownsRow 0 e size v n xs) :
  (Builtin.append_ #[t,t] ty #[v,.slice none 0 c]).run P w = .ok v w:=by
 rcases hown.2 with ⟨rfl,rfl⟩ | ⟨g,cap,cur,rfl,_,_,hnc,_⟩
 ·simp [Builtin.append_,run_underlying ht,sizeOf,typeInfo,hi,Builtin.lenOf,Builtin.firstCells]
 ·simp [Builtin.append_,run_underlying ht,sizeOf,typeInfo,hi,Builtin.lenOf,Builtin.firstCells,hnc,storeCells]
theorem wh {w w':World} (T ty e:TypeId) (i:TypeInfo) (zv:Value) (hT:P.underlying T=some (.slice e)) (hi:P.info? e=some i) (hz:i.zero=some zv)
  (a:Addr) (m c:Nat) (ys:List Value) (hl:ys.length=m * i.size) (hnews:∀ j u,ys[j]? = some u→w.cell? (a.add j)=some u) (h63:0+m≤maxLen) (hb:(0+m) * i.bytes≤140737488355328) {g n cap:Nat}
  (hr:(Builtin.append_ #[T,T] ty #[.slice none 0 0,.slice (some a) m c]).run P w = .ok (.slice (some ⟨g,0,none⟩) n cap) w') (hge:w.heap.size≤g) (hne:g≠w.heap.size):False:=by
 by_cases hm:m=0
 ·subst hm;have hn:ys=[]:=List.eq_nil_of_length_eq_zero (by simpa using hl);subst hn;simp [Builtin.append_,run_underlying hT,sizeOf,typeInfo,hi,Builtin.lenOf,Builtin.firstCells,loadCells,loadCellsFrom] at hr
 ·have hsmall:m≤9223372036854775807:=by simp only [maxLen] at h63; omega
  have hr2:=run_append_nil (P:=P) w T ty e i zv hT hi hz a m c ys hl hnews (by omega) (by omega) (by have hb:=hb; simp only [Nat.zero_add] at hb; omega);rw [hr2] at hr
  cases hr
  exact hne rfl
theorem fv {w:World} {T ty e:TypeId} {i:TypeInfo} {zv:Value} {z:Nat} (hT:P.underlying T=some (.slice e)) (hi:P.info? e=some i) (hz:i.zero=some zv) (hs:i.size=z) (hzc:zv.cells.size=z) (h0:0<z)
  {v:Value} {n m c:Nat} {xs ys:List Value} {A:Option Addr} (hown:w.ownsRow 0 e z v n xs) (hy:ys.length=m * z) (hr:jl w A ys) (h1:∀ u∈ys,u.oneCell'=true) (h63:n+m≤maxLen) (hb:(n+m) * i.bytes≤140737488355328) :
  ∃ v' w',(Builtin.append_ #[T,T] ty #[v,.slice A m c]).run P w = .ok v' w'∧w'.ownsRow 0 e z v' (n+m) (xs++ys)∧w.grownBy w' v.ownBlock∧(v'.ownBlock=v.ownBlock∨v'.ownBlock=some w.heap.size):=by
 cases A with
 | none =>
  have:ys=[]:=by
   apply Classical.byContradiction;intro hne;obtain ⟨ad,e,_⟩:=hr hne
   cases e
  subst this
  have hm:m=0:=by
   rcases Nat.eq_zero_or_pos m with h | h
   ·exact h
   ·have:=Nat.mul_pos h h0; simp at hy; omega
  subst hm;refine ⟨v,w,tF T ty e i z hT hi c v n xs hown,by simpa using hown,⟨rfl,rfl,rfl,aq _,fun _ _ _=>rfl⟩,.inl rfl⟩
 | some a =>
  have hnews:∀ j u,ys[j]? = some u→w.cell? (a.add j)=some u:=by
   intro j u hu;obtain ⟨ad,e,hc⟩:=hr (fun e=>by subst e; simp at hu)
   cases e
   exact hc j u hu
  rcases hown.2 with ⟨rfl,rfl⟩ | ⟨g,cap,cur,rfl,hbg,hg,hnc,hcm,hcs,htake⟩
  ·have hxs:xs=[]:=List.eq_nil_of_length_eq_zero (by rw [hown.1]; simp);subst hxs;obtain ⟨v',w',h1',h2',h3',_⟩:=run_append_own (P:=P) w w.heap.size T ty e i zv z i.bytes hT hi hz hs rfl hzc h0 _ 0 [] (World.ownsRow_nil w _ e z) a m c ys hy hnews h1 h63 hb (aq _);refine ⟨v',w',h1',?_,h3',?_⟩
   ·refine ⟨h2'.1,h2'.2.imp id ?_⟩;rintro ⟨g,cap,cur,hv,_,r⟩;exact ⟨g,cap,cur,hv,Nat.zero_le _,r⟩
   ·rcases h2'.2 with ⟨rfl,_⟩ | ⟨g,cap,cur,rfl,hge,hh,_⟩
    ·exact .inl rfl
    ·refine .inr ?_;have hlt:=(Array.getElem?_eq_some_iff.1 hh).1;by_cases hgs:g=w.heap.size
     ·simp [Value.ownBlock,hgs]
     ·exfalso;exact wh (P:=P) (w:=w) T ty e i zv hT hi hz a m c ys (hs ▸ hy) hnews h63 hb h1' hge hgs
  ·by_cases hroom:n+m≤cap
   ·obtain ⟨w',h1',h2',h3'⟩:=run_append_fits (P:=P) w 0 T ty e i z hT hi hs g n cap xs hown a m c ys hy hnews h1 hroom;exact ⟨_,w',h1',h2',h3',.inl rfl⟩
   ·subst hs;have holds:∀ j u,xs[j]? = some u→w.cell? ((⟨g,0,none⟩:Addr).add j)=some u:=hown.cells (g:=g) rfl;have hsmall:n+m≤9223372036854775807:=by simp only [maxLen] at h63; omega
    have hlen:(xs++ys).length=(n+m) * i.size:=by rw [List.length_append,hown.1,hy,Nat.add_mul]
    have hr':=run_append_grow (P:=P) w T ty e i zv hT hi hz ⟨g,0,none⟩ n cap xs hown.1 holds a m c ys hy hnews (by omega) (by omega) (growslice_fits (by omega) hb);have hge:=grownCap_ge w (n+m) cap e;have hcm':grownCap w (n+m) cap e≤maxLen:=grownCap_le_maxLen w (n+m) cap e h63;refine ⟨_,_,hr',⟨hlen,.inr ⟨w.heap.size,_,_,rfl,Nat.zero_le _,heap_alloc_new w.drew _,hge,hcm',?_,?_⟩⟩,⟨rfl,rfl,rfl,by simp,fun k hk _=>heap_alloc_old w.drew _ k hk⟩,.inr rfl⟩
    ·simp only [Array.size_append,List.size_toArray,size_zeroCells,hzc,hown.1,hy,← Nat.add_mul];congr 1;omega
    ·simp only [Array.toList_append,ar];rw [← ar,← hlen];exact List.take_left
section
variable {ty:TypeId} {pos:String} {aft:Array Edge} {gd:Option (Nat×Bool)}
structure dO (P:Program) (T e:TypeId) (z by_:Nat):Prop where
 ex:∃ (i:TypeInfo) (zv:Value),P.underlying T=some (.slice e)∧P.info? e=some i∧i.zero=some zv∧i.size=z∧zv.cells.size=z∧0<z∧i.bytes=by_
theorem xp (N:List aJ) (d:Nat) {T e t':TypeId} (x y:Operand) {z by_:Nat} {my:Md} {ys:List Value} (m:Nat) (hE:dO P T e z by_) (hx:rd N x = .v (.slice none 0 0)) (hy:rd N y = .fl my z ys) (hm:ys.length=m * z)
  (hb:m * by_≤140737488355328) (h63:m≤maxLen) :
  bh P ⟨some d,.call ⟨.builtin .append,#[x,y],#[T,T]⟩,t',pos,aft,gd⟩ N [] [(d,.fl (.own e) z ys)] [.slot d]:=by
 obtain ⟨i,zv,hT,hi,hz,hs,hzc,h0,rfl⟩:=hE.ex;refine bh.fresh rfl rfl fun g V oN a w hp => ?_;have h1:=bP hp.val hp.esN hx;obtain ⟨o',_,hr⟩:=kt hp.val hp.esN y;rw [hy] at hr;simp only [R] at hr;obtain ⟨A,m',c,⟨he,_⟩,hl,hone,hrd,_⟩:=hr;have:m'=m:=aO h0 (by omega);subst this;obtain ⟨v',w',hrun,hown,hg,hblk⟩:=fv (P:=P) (ty:=t') (c:=c) hT hi hz hs hzc h0 (World.ownsRow_nil w 0 e z) hl hrd hone (by omega) (by simpa using hb);refine (Yl.val (by simp [execOp,resolve,invoke,builtin,h1,he,hrun]:(execOp a.eval ⟨some d,.call ⟨.builtin .append,#[x,y],#[T,T]⟩,t',pos,aft,gd⟩).run P w = .ok (.value v') w')).mono ?_;rintro v w2 ⟨rfl,rfl⟩;have hchg:dq [] w w2:=(dq.of_grown hg).mono (by simp [Value.ownBlock]);simp only [List.nil_append] at hown;refine ⟨hchg,g,v.ownBlock.toList,g.le_refl,fun b hb => .inl hb,fw hown hone,by cases v.ownBlock <;> simp,?_⟩;intro b hb';have hvb:v.ownBlock=some b:=by cases hv:v.ownBlock <;> simp [hv] at hb' ⊢; exact hb'.symm
 have hlt:=(hown.lt b hvb).2;rcases hblk with h | h
 ·rw [h] at hvb; cases hvb
 ·rw [hvb] at h
  cases h
  exact ⟨aq _,hlt,fun hi=>Nat.lt_irrefl _ (hp.imm _ (.inl hi))⟩
theorem Dw (N:List aJ) (d t:Nat) {T e t':TypeId} (x y:Operand) {z by_:Nat} {my:Md} {xs ys:List Value} (n m:Nat) (hE:dO P T e z by_) (hx:bm (N++[(t,.fl (.own e) z xs)]) x = .same (.slot t)) (hy:rd N y = .fl my z ys)
  (hn:xs.length=n * z) (hm:ys.length=m * z) (hb:(n+m) * by_≤140737488355328) (h63:n+m≤maxLen) :
  bh P ⟨some d,.call ⟨.builtin .append,#[x,y],#[T,T]⟩,t',pos,aft,gd⟩ N [(t,.fl (.own e) z xs)] [(t,.any),(d,.fl (.own e) z (xs++ys))] [.slot d]:=by
 obtain ⟨i,zv,hT,hi,hz,hs,hzc,h0,rfl⟩:=hE.ex;refine bh.core fun g V oN oT a w hd hp => ?_;have hT':=hp.esT;simp only [Es] at hT';obtain ⟨ob,o2,rfl,⟨hR,_⟩,rfl⟩:=hT';have hax:=bE hp.val (aT.2 ⟨oN,_,rfl,hp.esN,hp.esT⟩) x;rw [hx] at hax;simp only [R] at hax hR;obtain ⟨a0,n0,c0,⟨h3,_⟩,hl0,hone0,_,hown,hob⟩:=hR;obtain ⟨o',_,hr⟩:=kt hp.val hp.esN y;rw [hy] at hr;simp only [R] at hr;obtain ⟨A,m',c,⟨he,_⟩,hl,hone,hrd,_⟩:=hr;have em:m'=m:=aO h0 (by omega);subst em;have en:n0=n:=aO h0 (by omega);subst en;obtain ⟨v',w',hrun,hown',hg,hblk⟩:=fv (P:=P) (ty:=t') (c:=c) hT hi hz hs hzc h0 hown hl hrd hone h63 (by simpa using hb)
 have hrun':(execOp a.eval ⟨some d,.call ⟨.builtin .append,#[x,y],#[T,T]⟩,t',pos,aft,gd⟩).run P w = .ok (.value v') w':=by have h4:a.eval x=V (.slot t):=hax.1;simp [execOp,resolve,invoke,builtin,he,h4,hrun]
 refine (Yl.val hrun').mono ?_;rintro v w2 ⟨rfl,rfl⟩;have hlt:d<g.n:=hd d rfl;have hchg:dq ob w w2:=by rw [hob]; exact dq.of_grown hg
 refine ⟨g,ck V d v,v.ownBlock.toList,g.le_refl,fun b hb => .inl hb,fun b hb=>am (hp.imm b (.inl hb)) hchg.size,by simpa using hchg,fun l hl=>bY hl,fun u=>cU hp.val hp.size hlt u,?_,by cases v.ownBlock <;> simp,?_⟩
 ·refine ⟨[],v.ownBlock.toList,rfl,⟨by simp [R],trivial⟩,v.ownBlock.toList,[],by simp,⟨?_,trivial⟩,rfl⟩;show R g _ _ _ (ck V d v (.slot d)) _;rw [cC];refine fw hown' fun u hu => ?_;rcases ak.1 hu with h | h
  ·exact hone0 u h
  ·exact hone u h
 ·intro b hb';have hvb:v.ownBlock=some b:=by cases hv:v.ownBlock <;> simp [hv] at hb' ⊢; exact hb'.symm
  have hlt2:=(hown'.lt b hvb).2;rcases hblk with h | h
  ·have hin:b∈ob:=by rw [hob,← h,hvb]; simp
   exact ⟨.inl (by simp [hin]),hlt2,(hp.own b (by simp [hin])).2⟩
  ·rw [hvb] at h
   cases h
   refine ⟨.inr (aq _),hlt2,fun hi=>Nat.lt_irrefl _ (hp.imm _ hi)⟩
theorem fu {g:Gh} {V:bF→Value} {w:World}:∀ {cs:List AV} {xs:List Value} {o:List Nat} (i:Nat),Rs g V w cs xs o→i<cs.length →
  ∃ o1 o2,o.Perm (o1++o2)∧R g V w (cs.getD i .any) (xs.getD i undef) o1∧Rs g V w (cs.set i .any) xs o2
 | [],_,_,i,_,hi=>by simp at hi
 | c::cs,xs,o,i,h,hi=>by
  simp only [Rs] at h
  obtain ⟨x,xs',o1,o2,rfl,rfl,h1,h2⟩:=h
  cases i with
  | zero=>exact ⟨o1,o2,.refl _,by simpa using h1,by simp only [List.set_cons_zero,Rs]; exact ⟨x,xs',[],o2,rfl,rfl,by simp [R],h2⟩⟩
  | succ i =>
   obtain ⟨o3,o4,hp,hr,hs⟩:=fu i h2 (by simpa using hi)
   refine ⟨o3,o1++o4,?_,by simpa using hr,by simp only [List.set_cons_succ,Rs]; exact ⟨x,xs',o1,o4,rfl,rfl,h1,hs⟩⟩
   refine (hp.append_left o1).trans ?_
   rw [← ar,← ar]
   exact List.perm_append_comm.append_right o4
theorem wz (N:List aJ) (d t i:Nat) {T e t' T':TypeId} (x y:Operand) {z by_:Nat} {my:Md} {cs:List AV} {xs ys:List Value} (n m:Nat) (hE:dO P T e z by_) (hx:bm N x = .same (.cell t i)) (hc:cs.getD i .any = .fl (.own e) z xs) (hic:i<cs.length)
  (hy:rd N y = .fl my z ys) (hn:xs.length=n * z) (hm:ys.length=m * z) (hb:(n+m) * by_≤140737488355328) (h63:n+m≤maxLen) (hdt:d≠t) (hcl:cW [.slot d] (cs.set i .any)=true) :
  bh P ⟨some d,.call ⟨.builtin .append,#[x,y],#[T,T]⟩,t',pos,aft,gd⟩ N [(t,.box T' cs)] [(t,.box T' (cs.set i .any)),(d,.fl (.own e) z (xs++ys))] [.slot d]:=by
 obtain ⟨ti,zv,hT,hi,hz,hs,hzc,h0,rfl⟩:=hE.ex;refine bh.core fun g V oN oT a w hd hp => ?_;have hT':=hp.esT;simp only [Es] at hT';obtain ⟨ob,o2,rfl,hER,rfl⟩:=hT';obtain ⟨hR,htie⟩:=hER;have hax:=bE hp.val hp.esN x;rw [hx] at hax;simp only [R] at hax hR;obtain ⟨b,cur,os,hpt,rfl,hh,hrs⟩:=hR;dsimp only at htie;obtain ⟨o1,o3,hperm,hRi,hrest⟩:=fu i hrs hic;rw [hc] at hRi;have hlen:=aZ hrs;have hcell:=htie b hpt i hic;rw [cell_of_row w b i _ T' (0,0) hh] at hcell;have hil:i<cur.length:=by omega
 have hVc:V (.cell t i)=cur.getD i undef:=by simp only [List.getElem?_toArray,List.getElem?_eq_getElem hil,Option.some.injEq] at hcell;rw [← hcell]; simp [hil]
 obtain ⟨u0,hu0⟩:∃ u,u=cur.getD i undef:=⟨_,rfl⟩;rw [← hu0] at hVc hRi;simp only [R] at hRi;obtain ⟨a0,n0,c0,⟨h3,_⟩,hl0,hone0,_,hown,hob⟩:=hRi;obtain ⟨o',_,hr⟩:=kt hp.val hp.esN y;rw [hy] at hr;simp only [R] at hr;obtain ⟨A,m',c,⟨he,_⟩,hl,hone,hrd,_⟩:=hr;have em:m'=m:=aO h0 (by omega);subst em;have en:n0=n:=aO h0 (by omega);subst en;obtain ⟨v',w',hrun,hown',hg,hblk⟩:=fv (P:=P) (ty:=t') (c:=c) hT hi hz hs hzc h0 hown hl hrd hone h63 (by simpa using hb)
 have hrun':(execOp a.eval ⟨some d,.call ⟨.builtin .append,#[x,y],#[T,T]⟩,t',pos,aft,gd⟩).run P w = .ok (.value v') w':=by
  have h4:a.eval x=u0:=by rw [hax.1,hVc]
  simp [execOp,resolve,invoke,builtin,he,h4,hrun]
 refine (Yl.val hrun').mono ?_;rintro v w2 ⟨rfl,rfl⟩;have hlt:d<g.n:=hd d rfl;have hchg:dq o1 w w2:=by rw [hob]; exact dq.of_grown hg
 have hin1:∀ c,c∈o1→c∈b::os:=fun c hc'=>by have:=hperm.mem_iff.2 (ak.2 (.inl hc')); simp [this]
 have hin3:∀ c,c∈o3→c∈b::os:=fun c hc'=>by have:=hperm.mem_iff.2 (ak.2 (.inr hc')); simp [this]
 have hinb:∀ c,c∈b::o3→c∈b::os:=by
  intro c hc';rcases aW.1 hc' with h | h
  ·simp [h]
  ·exact hin3 c h
 have hnd2:(b::os).Nodup:=by have:=(ag.1 hp.nodup).2.1; simpa using this
 have hnd3:(b::(o1++o3)).Nodup:=((hperm.cons b).nodup_iff).1 hnd2;have hlts:∀ c,c∈b::os→c<w.heap.size∧¬ g.imm c:=fun c hc'=>hp.own c (by simp at hc' ⊢; exact .inr hc')
 have hkeep:∀ c,c∈b::o3∨g.imm c→w2.heap[c]? = w.heap[c]? := by
  intro c hc';rcases hc' with hc' | hc'
  ·refine hchg.block c (hlts c (hinb c hc')).1 fun h1 => ?_;simp only [bI,ak,ag] at hnd3;rcases aW.1 hc' with rfl | h3
   ·exact hnd3.1 (.inl h1)
   ·exact hnd3.2.2.2 c h1 c h3 rfl
  ·exact hchg.block c (hp.imm c hc') fun h1=>(hlts c (hin1 c h1)).2 hc'
 have hdtl:∀ l,fq [.slot d] l=false→ck V d v l=V l:=fun l hl=>bY hl;refine ⟨g,ck V d v,(b::o3)++v.ownBlock.toList,g.le_refl,fun b hb => .inl hb,fun b hb=>am (hp.imm b (.inl hb)) hchg.size,?_,hdtl,fun u=>cU hp.val hp.size hlt u,?_,?_,?_⟩
 ·exact hchg.mono fun c hc'=>by simpa using hin1 c hc'
 ·have hVt:ck V d v (.slot t)=V (.slot t):=by simp only [ck]; rw [if_neg fun e=>hdt e.symm]
  have hVtc:∀ j,ck V d v (.cell t j)=V (.cell t j):=fun j=>rfl;refine ⟨b::o3,v.ownBlock.toList,rfl,⟨?_,?_⟩,v.ownBlock.toList,[],by simp,⟨?_,trivial⟩,rfl⟩
  ·show R g _ _ (.box T' _) (ck V d v (.slot t)) _;rw [hVt];simp only [R];refine ⟨b,cur,o3,hpt,rfl,by rw [hkeep b (.inl (by simp))]; exact hh,?_⟩;exact cq (W:=[.slot d]) (fun _ h=>h) (fun _ h=>h) hdtl _ _ _ hcl (fun c hc'=>hkeep c (hc'.imp (fun h=>by simp [h]) id)) hrest
  ·intro b' hb' j hj;rw [hVt] at hb';rw [hVtc]
   rw [World.cell?_of_block (w:=w) (by
    rw [hpt] at hb'; cases hb'
    exact hkeep b (.inl (by simp)))]
   exact htie b' hb' j (by simpa using hj)
  ·show R g _ _ _ (ck V d v (.slot d)) _;rw [cC];refine fw hown' fun u hu => ?_;rcases ak.1 hu with h | h
   ·exact hone0 u h
   ·exact hone u h
 ·refine ag.2 ⟨?_,by cases v.ownBlock <;> simp,?_⟩
  ·have:(o1++(b::o3)).Nodup:=(List.perm_middle.nodup_iff).2 hnd3;exact (ag.1 this).2.1
  ·intro c hc' c2 hc2 e;subst e;have hvb:v.ownBlock=some c:=by cases hv:v.ownBlock <;> simp [hv] at hc2 ⊢; exact hc2.symm
   rcases hblk with h | h
   ·have hin:c∈o1:=by rw [hob,← h,hvb]; simp
    simp only [bI,ak,ag] at hnd3;rcases aW.1 hc' with rfl | h3
    ·exact hnd3.1 (.inl hin)
    ·exact hnd3.2.2.2 c hin c h3 rfl
   ·rw [hvb] at h
    cases h
    have:=(hlts w.heap.size (hinb _ hc')).1;omega
 ·intro c hc';rcases ak.1 hc' with hc' | hc'
  ·have h4:c∈b::os:=hinb c hc';exact ⟨.inl (by simpa using h4),am (hlts c h4).1 hchg.size,(hlts c h4).2⟩
  ·have hvb:v.ownBlock=some c:=by cases hv:v.ownBlock <;> simp [hv] at hc' ⊢; exact hc'.symm
   have hlt2:=(hown'.lt c hvb).2;rcases hblk with h | h
   ·have hin:c∈o1:=by rw [hob,← h,hvb]; simp
    exact ⟨.inl (by simpa using hin1 c hin),hlt2,(hlts c (hin1 c hin)).2⟩
   ·rw [hvb] at h
    cases h
    exact ⟨.inr (aq _),hlt2,fun hi=>Nat.lt_irrefl _ (hp.imm _ hi)⟩
end
end
end Go.Abs
end
section
namespace Go.Abs
section
variable {P:Program} {ty:TypeId} {pos:String} {aft:Array Edge} {gd:Option (Nat×Bool)}
def ub:Md→Bool
 | .own _=>false
 | _=>true
theorem bo (N:List aJ) (d:Nat) {T e:TypeId} {n:Nat} {parts:Array (Nat×Operand)} (z:Nat) (zv:Value) (cells:List Value) (iD:List (Nat×Value)) (hT:P.underlying T=some (.slice e)) (hz:(P.info? e).map (·.size)=some z)
  (hzv:(P.info? e).bind (·.zero)=some zv) (hv:∀ (g:Gh) (V:bF→Value) (w:World) (o:List Nat) (a:Act),(∀ t,V (.slot t)=a.tmps.getD t undef)→Es g V w N o→(parts.map fun (i,x)=>(i,a.eval x)).toList=iD)
  (hf:Instr.fill (fun i=>some (i * z,z)) ((Array.range (n * z)).map (zv.cells[· % zv.cells.size]!)) iD=some cells.toArray) (h1:∀ u∈cells,u.oneCell'=true) (hl:cells.length=n * z) (hn:0<n) (h0:0<z) (hsm:n * z≤16777216) :
  bh P ⟨some d,.buildSlice T n parts,ty,pos,aft,gd⟩ N [] [(d,.fl (.own e) z cells)] [.slot d]:=by
 refine bh.fresh rfl rfl fun g V oN a w hp => ?_;have hvals:=hv g V w oN a hp.val hp.esN;have hnz:¬ n * z=0:=by have:=Nat.mul_pos hn h0; omega
 have hr:(execOp a.eval ⟨some d,.buildSlice T n parts,ty,pos,aft,gd⟩).run P w = .ok (.value (.slice (some ⟨w.heap.size,0,none⟩) n n)) (w.alloc (.cells cells.toArray e)):=by
  have hbig:¬ n * z > 2 ^ 24:=by omega
  simp only [execOp,Instr.buildSlice,Sem.run_bind,run_underlying hT,Result.andThen_ok,bu hz,hbig,if_false,hnz,jg hzv,hvals];simp [hf,newRow,newObj];rfl
 have hown:=World.ownsRow_lit (base:=0) (e:=e) (size:=z) w cells.toArray n (Nat.zero_le _) (by simp only [maxLen]; have:=Nat.le_mul_of_pos_right n h0; omega) (by simpa using hl);refine (Yl.val hr).mono ?_;rintro v w2 ⟨rfl,rfl⟩;refine ⟨dq.alloc _ _ _,g,[w.heap.size],g.le_refl,fun b hb => .inl hb,fw (by simpa using hown) h1,by simp,?_⟩;intro b hb;simp at hb; subst hb;exact ⟨aq _,by simp,fun hi=>Nat.lt_irrefl _ (hp.imm _ (.inl hi))⟩
theorem Ep (N:List aJ) (d:Nat) {T e:TypeId} {x:Operand} {lo hi:Option Operand} {m:Md} {z:Nat} {xs:List Value} (l h:Nat) (ys:List Value) (hT:P.underlying T=some (.slice e)) (hz:(P.info? e).map (·.size)=some z) (h0:0<z)
  (hx:rd N x = .fl m z xs) (hm:ub m=true)
  (hl:match lo with | some y=>∃ k,rd N y = .v (.int k (l:Int)) | none=>l=0) (hh:match hi with | some y=>∃ k,rd N y = .v (.int k (h:Int)) | none=>h * z=xs.length) (h1:l≤h) (h2:h * z≤xs.length) (hys:(xs.drop (l * z)).take ((h-l) * z)=ys) :
  bh P ⟨some d,.slice T x lo hi none,ty,pos,aft,gd⟩ N [] [(d,.fl m z ys)] [.slot d]:=by
 refine bh.value rfl rfl rfl fun g V oN a w hp => ?_;obtain ⟨o',_,hr⟩:=kt hp.val hp.esN x;rw [hx] at hr;simp only [R] at hr;obtain ⟨A,n,c,⟨he,hnc⟩,hlen,hone,hrd,hmo⟩:=hr;have hhn:h≤n:=by rw [hlen] at h2; exact Nat.le_of_mul_le_mul_right h2 h0
 have hln:l≤n:=by omega
 have hylen:ys.length=(h-l) * z:=by
  rw [← hys];have:l * z+(h-l) * z≤xs.length:=by rw [← Nat.add_mul]; rw [show l+(h-l)=h by omega]; exact h2
  simp; omega
 have hsub:∀ (j:Nat) (u:Value),ys[j]? = some u→xs[l * z+j]? = some u:=by
  intro j u hu;rw [← hys] at hu;simp only [List.getElem?_take,List.getElem?_drop] at hu;split at hu
  ·exact hu
  ·cases hu
 have hone':∀ u∈ys,u.oneCell'=true:=fun u hu=>by rw [← hys] at hu;exact hone u (List.mem_of_mem_drop (List.mem_of_mem_take hu))
 have hne:ys≠[]→xs≠[]:=by rintro h3 rfl;rw [← hys] at h3; simp at h3
 ·have e2:∀ y,lo=some y→∃ k,a.eval y = .int k (l:Int):=by intro y hy; subst hy; obtain ⟨k,hk⟩:=hl; exact ⟨k,bP hp.val hp.esN hk⟩
  have e3:∀ y,hi=some y→∃ k,a.eval y = .int k (h:Int):=by intro y hy; subst hy; obtain ⟨k,hk⟩:=hh; exact ⟨k,bP hp.val hp.esN hk⟩
  have hhc:h≤c:=by omega
  have hrun:(execOp a.eval ⟨some d,.slice T x lo hi none,ty,pos,aft,gd⟩).run P w = .ok (.value (.slice (if c=l then A else A.map (·.add (l * z))) (h-l) (c-l))) w:=by
   cases lo with
   | none =>
    simp only at hl; subst hl
    cases hi with
    | none =>
     simp only at hh;have:h=n:=aO h0 (by omega);subst this;simp [execOp,Instr.sliceAt,Instr.slice,run_underlying hT,he,Instr.sliceBounds,bu hz]
    | some y =>
     obtain ⟨k,hk⟩:=e3 y rfl;simp [execOp,Instr.sliceAt,Instr.slice,run_underlying hT,he,Instr.sliceBounds,Instr.sliceBound,asIntOf,hk,hhc,bu hz]
   | some y =>
    obtain ⟨k,hk⟩:=e2 y rfl
    cases hi with
    | none =>
     simp only at hh;have:h=n:=aO h0 (by omega);subst this;simp [execOp,Instr.sliceAt,Instr.slice,run_underlying hT,he,Instr.sliceBounds,Instr.sliceBound,asIntOf,hk,h1,bu hz]
    | some y' =>
     obtain ⟨k',hk'⟩:=e3 y' rfl;simp [execOp,Instr.sliceAt,Instr.slice,run_underlying hT,he,Instr.sliceBounds,Instr.sliceBound,asIntOf,hk,hk',h1,hhc,bu hz]
  refine ⟨_,hrun,?_⟩;simp only [R];refine ⟨_,h-l,c-l,⟨rfl,by omega⟩,hylen,hone',?_,?_⟩
  ·intro h3;obtain ⟨ad,rfl,hc⟩:=hrd (hne h3)
   have hcl:c≠l:=by
    intro e;have:h-l=0:=by omega
    rw [this] at hylen;simp at hylen; exact h3 hylen
   rw [if_neg hcl];refine ⟨ad.add (l * z),rfl,fun j u hu => ?_⟩;rw [qK];exact hc _ _ (hsub j u hu)
  ·cases m with
   | own T=>simp [ub] at hm
   | ro =>
    refine ⟨rfl,fun h3 => ?_⟩;obtain ⟨ad,rfl,hi⟩:=hmo.2 (hne h3);split
    ·exact ⟨ad,rfl,hi⟩
    ·exact ⟨ad.add (l * z),rfl,by rw [qJ]; exact hi⟩
   | shr =>
    refine ⟨rfl,fun h3 => ?_⟩;obtain ⟨ad,rfl,hi⟩:=hmo.2 (hne h3);split
    ·exact ⟨ad,rfl,hi⟩
    ·exact ⟨ad.add (l * z),rfl,by rw [qJ]; exact hi⟩
end
end Go.Abs
end
section
namespace Go.Abs
section
variable {P:Program} {ty:TypeId} {pos:String} {aft:Array Edge} {gd:Option (Nat×Bool)}
inductive kh (N:List aJ):List Operand→List aJ→List AV→Prop
 | nil:kh N [] [] []
 | copy (x:Operand) {r:List Operand} {TV:List aJ} {avs:List AV} (h:kh N r TV avs):kh N (x::r) TV (bm N x::avs)
 | take (t:Nat) (av:AV) {r:List Operand} {TV:List aJ} {avs:List AV} (h:kh N r TV avs):kh N (.tmp t::r) ((t,av)::TV) (av::avs)
theorem II {g:Gh} {V:bF→Value} {w:World} {N:List aJ} {oN:List Nat} {a:Act} (hv:∀ t,V (.slot t)=a.tmps.getD t undef) (hN:Es g V w N oN) :
  ∀ {xs:List Operand} {TV:List aJ} {avs:List AV},kh N xs TV avs→∀ {oV:List Nat},Es g V w TV oV→Rs g V w avs (xs.map a.eval) oV:=by
 intro xs TV avs h
 induction h with
 | nil=>intro oV hV; simp only [Es] at hV; subst hV; simp [Rs]
 | copy x h ih =>
  intro oV hV;simp only [List.map_cons,Rs];exact ⟨_,_,[],oV,rfl,rfl,bE hv hN x,ih hV⟩
 | take t av h ih =>
  intro oV hV;simp only [Es] at hV;obtain ⟨o1,o2,rfl,⟨hr,_⟩,h2⟩:=hV;simp only [List.map_cons,Rs];exact ⟨_,_,o1,o2,rfl,rfl,by simp only [Act.eval,← hv]; exact hr,ih h2⟩
def Ao (place:Nat→Option (Nat×Nat)):List AV→List (Nat×AV)→Option (List AV)
 | cs,[]=>some cs
 | cs,(i,av)::r =>
  match place i with
  | none=>none
  | some (off,s)=>if Nat.beq (cQ av).length s&&Nat.ble (off+s) cs.length then Ao place (cs.take off++(cQ av++cs.drop (off+s))) r else none
theorem qd (vs:List Value):∀ (off:Nat) (xs:Array Value) (k:Nat),off+k+vs.length≤xs.size →
  ((vs.zipIdx k).foldl (fun (cs:Array Value) p=>cs.setIfInBounds (off+p.2) p.1) xs).toList=xs.toList.take (off+k)++(vs++xs.toList.drop (off+k+vs.length)):=by
 induction vs with
 | nil=>intro off xs k _; simp
 | cons v vs ih =>
  intro off xs k h;simp only [List.zipIdx_cons,List.foldl_cons,List.length_cons] at h ⊢;rw [ih off _ (k+1) (by simp; omega)];have hlt:off+k<xs.toList.length:=by simp; omega
  simp only [Array.toList_setIfInBounds];have e1:off+(k+1)=off+k+1:=by omega
  rw [e1,List.take_add_one,List.getElem?_set];simp only [if_true];rw [List.take_set_of_le (aq _)]
  have e2:(xs.toList.set (off+k) v).drop (off+k+1+vs.length)=xs.toList.drop (off+k+(vs.length+1)):=by rw [List.drop_set_of_lt (by omega)];congr 1; omega
  rw [e2];have hlt':off+k<xs.size:=by simpa using hlt
  simp [hlt']
theorem vT {g:Gh} {V:bF→Value} {w:World} {NT:List aJ} {oNT:List Nat} (hes:Es g V w NT oNT) (place:Nat→Option (Nat×Nat)) :
  ∀ (parts:List (Nat×AV)) (cs:List AV) (xs:List Value) (o:List Nat) (iD:List Value) (oV:List Nat) (cs':List AV),(∀ p∈parts,dB NT p.2=true)→Rs g V w cs xs o→Rs g V w (parts.map (·.2)) iD oV →
   Ao place cs parts=some cs'→∃ xs' o' o'',Instr.fill place xs.toArray ((parts.map (·.1)).zip iD)=some xs'.toArray∧Rs g V w cs' xs' o'∧(o++oV).Perm (o'++o'')
 | [],cs,xs,o,iD,oV,cs',_,hc,hv,hf=>by
  simp only [List.map_nil,Rs] at hv
  obtain ⟨rfl,rfl⟩:=hv
  simp only [Ao,Option.some.injEq] at hf
  subst hf
  exact ⟨xs,o,[],by simp [Instr.fill],hc,by simp⟩
 | (i,av)::r,cs,xs,o,iD,oV,cs',hok,hc,hv,hf=>by
  simp only [List.map_cons,Rs] at hv
  obtain ⟨x,vals',o1,o2,rfl,rfl,hx,hr⟩:=hv
  simp only [Ao] at hf
  split at hf
  ·cases hf
  ·rename_i off s hp
   split at hf
   ·rename_i hb
    simp only [ah] at hb
    have hb1:=Nat.eq_of_beq_eq_true hb.1
    have hb2:=Nat.le_of_ble_eq_true hb.2
    obtain ⟨hvc,hone⟩:=lG hes (hok (i,av) List.mem_cons_self) hx
    have hvl:=aZ hvc
    have hcl:=aZ hc
    have hsplit:cs=cs.take off++((cs.drop off).take s++cs.drop (off+s)):=by
     rw [← List.drop_drop,List.take_append_drop,List.take_append_drop]
    rw [hsplit] at hc
    obtain ⟨x1,x23,p1,p23,hx123,hp123,hc1,hc23⟩:=cJ.1 hc
    obtain ⟨x2,x3,p2,p3,rfl,rfl,hc2,hc3⟩:=cJ.1 hc23
    have l1:x1.length=off:=by rw [aZ hc1]; simp; omega
    have l2:x2.length=s:=by rw [aZ hc2]; simp; omega
    have hnew:=cJ.2 ⟨_,_,_,_,rfl,rfl,hc1,cJ.2 ⟨_,_,_,_,rfl,rfl,hvc,hc3⟩⟩
    obtain ⟨xs',o',o'',hfill,hrs,hperm⟩:=vT hes place r _ _ _ vals' o2 cs' (fun q hq=>hok q (List.mem_cons_of_mem _ hq)) hnew hr hf
    refine ⟨xs',o',o''++p2,?_,hrs,?_⟩
    ·simp only [List.map_cons,List.zip_cons_cons,Instr.fill,hp]
     rw [if_neg]
     ·rw [← hfill]
      congr 1
      have hsz:x.cells.size=s:=by rw [← hb1,← hvl]; simp
      have:=qd x.cells.toList off xs.toArray 0 (by simp [hsz]; omega)
      apply Array.ext'
      have hz:(x.cells.zipIdx.foldl (fun (cs:Array Value) (p:Value×Nat)=>cs.setIfInBounds (off+p.2) p.1) xs.toArray)=(x.cells.toList.zipIdx 0).foldl (fun (cs:Array Value) p=>cs.setIfInBounds (off+p.2) p.1) xs.toArray:=by
       rw [← Array.foldl_toList]; simp
      show (x.cells.zipIdx.foldl (fun (cs:Array Value) (p:Value×Nat)=>cs.setIfInBounds (off+p.2) p.1) xs.toArray).toList=_
      rw [hz,this]
      simp only [Nat.add_zero,Array.length_toList,hsz]
      have e1:xs.take off=x1:=by rw [hx123,← l1]; simp
      have e3:xs.drop (off+s)=x3:=by rw [hx123,← l1,← l2,← ar,← List.length_append]; simp
      rw [e1,e3]
     ·have hsz:x.cells.size=s:=by rw [← hb1,← hvl]; simp
      simp [hsz]; omega
    ·rw [hp123]
     rw [List.perm_iff_count] at hperm ⊢
     intro c
     have:=hperm c
     simp only [List.count_append] at this ⊢
     omega
   ·cases hf
theorem bt (N TV:List aJ) (d:Nat) {T:TypeId} {fs:Array Field} {parts:Array (Nat×Operand)} (zv:Value) (sizes:List Nat) (avs:List AV) (cs':List AV) (hT:P.underlying T=some (.struct fs)) (hz:(P.info? T).bind (·.zero)=some zv)
  (hsz:fs.toList.map (fun f=>(P.info? f.type).map (·.size))=sizes.map some) (hsrc:kh N (parts.toList.map (·.2)) TV avs) (hok:avs.all (dB (N++TV))=true)
  (hf:Ao (fun i=>((fs.toList.map (·.offset)).zip sizes)[i]?) (zv.cells.toList.map .v) ((parts.toList.map (·.1)).zip avs)=some cs') (hcl:cW [.slot d] cs'=true) :
  bh P ⟨some d,.build T parts,ty,pos,aft,gd⟩ N TV [(d,.agg cs')] [.slot d]:=by
 refine bh.core fun g V oN oT a w hd hp => ?_;have hR:=II hp.val hp.esN hsrc hp.esT;have hNT:Es g V w (N++TV) (oN++oT):=aT.2 ⟨_,_,rfl,hp.esN,hp.esT⟩;have hlen:avs.length=(parts.toList.map (·.2)).length:=by have:=aZ hR; simpa using this.symm
 have hm2:(((parts.toList.map (·.1)).zip avs).map (·.2))=avs:=by rw [List.map_snd_zip]; simp at hlen ⊢; omega
 have hm1:(((parts.toList.map (·.1)).zip avs).map (·.1))=parts.toList.map (·.1):=by rw [List.map_fst_zip]; simp at hlen ⊢; omega
 obtain ⟨xs',o',o'',hfill,hrs,hperm⟩:=vT hNT (fun i=>((fs.toList.map (·.offset)).zip sizes)[i]?) ((parts.toList.map (·.1)).zip avs) (zv.cells.toList.map .v) zv.cells.toList [] ((parts.toList.map (·.2)).map a.eval) oT cs'
  (fun p hp=>by
   have h1:p.2∈avs:=by rw [← hm2]; exact List.mem_map_of_mem hp
   exact aR.1 hok _ h1) (ta _) (by rw [hm2]; exact hR) hf
 rw [hm1] at hfill
 have hplaces:∀ (w:World),(fs.mapM fun f=>(do pure (f.offset,← sizeOf f.type):Sem (Nat×Nat))).run P w = .ok ((fs.toList.map (·.offset)).zip sizes).toArray w:=by
  intro w;rw [Array.mapM_eq_mapM_toList];have hfun:(fun (f:Field)=>(do pure (f.offset,← sizeOf f.type):Sem (Nat×Nat)))=fun f=>Prod.mk f.offset <$> sizeOf f.type:=by funext f; simp
  have:∀ (l:List Field) (ss:List Nat),l.map (fun f=>(P.info? f.type).map (·.size))=ss.map some→(l.mapM fun f=>(Prod.mk f.offset <$> sizeOf f.type:Sem (Nat×Nat))).run P w = .ok ((l.map (·.offset)).zip ss) w:=by
   intro l
   induction l with
   | nil=>intro ss h; simp
   | cons f l ih =>
    intro ss h
    cases ss with
    | nil=>simp at h
    | cons s ss =>
     simp only [List.map_cons,List.cons.injEq] at h;simp [List.mapM_cons,bu h.1,ih ss h.2]
  rw [hfun];simp [this _ _ hsz]
 have hpe:(parts.map fun (i,x)=>(i,a.eval x)).toList=(parts.toList.map (·.1)).zip ((parts.toList.map (·.2)).map a.eval):=by
  rw [Array.toList_map];generalize parts.toList=l
  induction l with
  | nil=>rfl
  | cons p l ih=>simp only [List.map_cons,List.zip_cons_cons,ih]
 have hrun:(execOp a.eval ⟨some d,.build T parts,ty,pos,aft,gd⟩).run P w = .ok (.value (.agg xs'.toArray)) w:=by
  have hfe:(fun (i:Nat)=>(((fs.toList.map (·.offset)).zip sizes).toArray[i]? : Option (Nat×Nat)))=fun (i:Nat)=>((fs.toList.map (·.offset)).zip sizes)[i]? := by funext i; simp
  simp only [execOp,Instr.build,Sem.run_bind,jg hz,Result.andThen_ok,run_underlying hT,hplaces,hpe,hfe];have hz2:zv.cells.toList.toArray=zv.cells:=by simp
  rw [hz2,List.map_map] at hfill;simp [hfill]
 refine (Yl.val hrun).mono ?_;rintro x w' ⟨rfl,rfl⟩;have hlt:d<g.n:=hd d rfl;simp only [List.nil_append] at hperm;have hnd:o'.Nodup:=(ag.1 (hperm.nodup_iff.1 (ag.1 hp.nodup).2.1)).1;have hsub:∀ b∈o',b∈oT:=fun b hb=>hperm.mem_iff.2 (by simp [hb]);refine ⟨g,ck V d _,o',g.le_refl,fun b hb => .inl hb,fun b hb=>hp.imm b (.inl hb),dq.refl _ _,fun l hl=>bY hl,fun u=>cU hp.val hp.size hlt u,?_,hnd,?_⟩
 ·refine ⟨o',[],by simp,⟨?_,trivial⟩,rfl⟩;show R g _ _ (.agg cs') (ck V d _ (.slot d)) o';rw [cC];simp only [R];exact ⟨xs',rfl,cq (W:=[.slot d]) (fun _ h=>h) (fun _ h=>h) (fun l hl=>bY hl) _ _ _ hcl (fun _ _=>rfl) hrs⟩
 ·intro b hb;have:=hp.own b (by simp [hsub b hb]);exact ⟨.inl (hsub b hb),this.1,this.2⟩
theorem yJ (N:List aJ) (d:Nat) {s t e:TypeId} (x:Operand) {m:Md} (l:List Int) (hs:P.underlying s=some (.slice e)) (ht:P.underlying t=some .string) (he:P.underlying e=some (.int .u8))
  (hx:rd N x = .fl m 1 (l.map (.int .u8))) :
  bh P ⟨some d,.convert s t x,ty,pos,aft,gd⟩ N [] [(d,.v (.string ⟨(l.map fun n=>UInt8.ofNat n.toNat).toArray⟩))] [.slot d]:=by
 refine bh.v rfl fun g V oN a w hp => ?_;obtain ⟨o',_,hr⟩:=kt hp.val hp.esN x;rw [hx] at hr;simp only [R] at hr;obtain ⟨A,n,c,⟨hv,_⟩,hl,_,hrd,_⟩:=hr
 have hrun:(convert s t (a.eval x)).run P w = .ok (.string ⟨(l.map fun n=>UInt8.ofNat n.toNat).toArray⟩) w:=by
  rw [hv]
  cases A with
  | none =>
   have:l=[]:=by
    apply Classical.byContradiction;intro hne;obtain ⟨ad,e,_⟩:=hrd (by simpa using hne)
    cases e
   subst this;rw [run_convert_bytes_nil w s e hs he n c t ht];rfl
  | some ad =>
   have hload:(loadCells ad n).run P w = .ok (l.map (Value.int .u8)).toArray w:=by
    by_cases hne:l=[]
    ·subst hne;simp at hl; subst hl;simp [loadCells,loadCellsFrom]
    ·obtain ⟨ad',e,hc⟩:=hrd (by simpa using hne)
     cases e
     have:=run_loadCells_list (P:=P) w ad (l.map (Value.int .u8)) hc;simpa [show l.length=n by simpa using hl] using this
   rw [run_convert_bytes_string w s t e _ n c hs he ht,run_bytesToString w _ n c l hload,foldl_push_bytes];simp [ByteArray.empty,ByteArray.emptyWithCapacity];rfl
 simp [execOp,hrun]
end
end Go.Abs
end
section
namespace Go.Abs
mutual
def bq:AV→Bool
 | .any=>true
 | .v _=>true
 | .fl .. => true
 | .agg cs=>bj cs
 | .tup cs=>bj cs
 | .box _ cs=>bj cs
 | .same _=>false
 | .ptr .. => false
 | .eref .. => false
 | .arr .. => true
 | .fr .. => true
 | .glob _=>true
 | .obox _ _ cs=>bj cs
 | .clo .. => false
 | .cut .. => false
 | .cloB _ cs=>bj cs
 | .inv _=>true
 | .mkr .. => true
 | .asl .. => false
 | .hid _=>true
def bj:List AV→Bool
 | []=>true
 | c::cs=>bq c&&bj cs
end
mutual
def eW:AV→Bool
 | .fl .shr _ _=>false
 | .fr .shr _ _ _=>false
 | .fr _ s _ _ => !s
 | .agg cs=>kq cs
 | .tup cs=>kq cs
 | .box _ cs=>kq cs
 | .obox _ _ cs=>kq cs
 | .glob _=>false
 | .cloB _ cs=>kq cs
 | .inv _=>false
 | .hid _=>false
 | _=>true
def kq:List AV→Bool
 | []=>true
 | c::cs=>eW c&&kq cs
end

theorem tX {g g':Gh} {w:World} {m:Md} {z n:Nat} {x:Value} {a:Option Addr} {xs:List Value} {o:List Nat} (hI:∀ b,g.Imm b→g'.Imm b) (hM:(∀ b,g.Im b→g'.Im b)∨(match m with | .shr=>False | _=>True))
  (h:bW g w m z x n a xs o):bW g' w m z x n a xs o:=by
 cases m with
 | own T=>exact h
 | ro=>exact ⟨h.1,fun hne=>let ⟨ad,e,hi⟩:=h.2 hne; ⟨ad,e,hI _ hi⟩⟩
 | shr =>
  rcases hM with hM | hM
  ·exact ⟨h.1,fun hne=>let ⟨ad,e,hi⟩:=h.2 hne; ⟨ad,e,hi.imp (hI _) (hM _)⟩⟩
  ·exact hM.elim
mutual
theorem bV {g g':Gh} {V V':bF→Value} {w:World} (hI:∀ b,g.Imm b→g'.Imm b) :
  ∀ (av:AV) (x:Value) (o:List Nat),bq av=true→((∀ b,g.Im b→g'.Im b)∨eW av=true)→R g V w av x o→R g' V' w av x o
 | .any,x,o,_,_,h=>by simp only [R] at *; exact h
 | .v y,x,o,_,_,h=>by simp only [R] at *; exact h
 | .fl m z xs,x,o,_,hM,h=>by
  simp only [R] at *
  obtain ⟨a,n,c,h1,h2,h3,h4,h5⟩:=h
  refine ⟨a,n,c,h1,h2,h3,h4,tX hI (hM.imp id fun h => ?_) h5⟩
  cases m <;> simp_all [eW]
 | .agg cs,x,o,hc,hM,h=>by
  simp only [R,bq,eW] at *
  obtain ⟨xs,e,h⟩:=h
  exact ⟨xs,e,bJ hI cs xs o hc hM h⟩
 | .tup cs,x,o,hc,hM,h=>by
  simp only [R,bq,eW] at *
  obtain ⟨xs,e,h⟩:=h
  exact ⟨xs,e,bJ hI cs xs o hc hM h⟩
 | .box T cs,x,o,hc,hM,h=>by
  simp only [R,bq,eW] at *
  obtain ⟨b,xs,os,h1,h2,h3,h⟩:=h
  exact ⟨b,xs,os,h1,h2,h3,bJ hI cs xs os hc hM h⟩
 | .same l,x,o,hc,_,h=>by simp [bq] at hc
 | .ptr t i,x,o,hc,_,h=>by simp [bq] at hc
 | .eref l k,x,o,hc,_,h=>by simp [bq] at hc
 | .arr T vs,x,o,_,_,h=>by simp only [R] at *; exact h
 | .glob gl,x,o,_,hM,h=>by
  simp only [R] at *
  rcases hM with hM | hM
  ·exact ⟨fun p hp=>let ⟨h1,h2⟩:=h.1 p hp; ⟨h1.imp (hI _) (hM _),h2⟩,h.2⟩
  ·simp [eW] at hM
 | .obox p T cs,x,o,hc,hM,h=>by
  simp only [R,bq,eW] at *
  refine ⟨fun hp => ?_,h.2⟩
  obtain ⟨b,xs,os,h1,h2,h3,h⟩:=h.1 hp
  exact ⟨b,xs,os,h1,h2,h3,bJ hI cs xs os hc hM h⟩
 | .clo f ts,x,o,hc,_,h=>by simp [bq] at hc
 | .cut l k,x,o,hc,_,h=>by simp [bq] at hc
 | .fr m s z cs,x,o,_,hM,h=>by
  simp only [R] at *
  obtain ⟨vs,a,n,c,h1,h2,h3,h4,h5,h6⟩:=h
  rcases hM with hM | hM
  ·exact ⟨vs,a,n,c,h1,h2,h3,h4,tX hI (.inl hM) h5,dc (fun b h=>jJ hI hM h) (fun _ _=>rfl) cs vs h6⟩
  ·cases m <;> cases s <;> simp [eW] at hM
   ·exact ⟨vs,a,n,c,h1,h2,h3,h4,h5,dc (s:=false) (s':=false) hI (fun _ _=>rfl) cs vs h6⟩
   ·exact ⟨vs,a,n,c,h1,h2,h3,h4,tX hI (.inr trivial) h5,dc (s:=false) (s':=false) hI (fun _ _=>rfl) cs vs h6⟩
 | .cloB f cs,x,o,hc,hM,h=>by
  simp only [R,bq,eW] at *
  obtain ⟨xs,e,h⟩:=h
  exact ⟨xs,e,bJ hI cs xs o hc hM h⟩
 | .inv J,x,o,_,hM,h=>by
  simp only [R] at *
  rcases hM with hM | hM
  ·exact J.stab _ _ _ _ o w w hI hM (fun _ _=>rfl) h
  ·simp [eW] at hM
 | .mkr E xs,x,o,_,_,h=>by simp only [R] at *; exact h
 | .asl t i,x,o,hc,_,h=>by simp [bq] at hc
 | .hid J,x,o,_,hM,h=>by
  simp only [R] at *
  rcases hM with hM | hM
  ·exact J.stab _ _ _ _ x o w w hI hM (fun _ _=>rfl) h
  ·simp [eW] at hM
theorem bJ {g g':Gh} {V V':bF→Value} {w:World} (hI:∀ b,g.Imm b→g'.Imm b) :
  ∀ (cs:List AV) (xs:List Value) (o:List Nat),bj cs=true→((∀ b,g.Im b→g'.Im b)∨kq cs=true)→Rs g V w cs xs o→Rs g' V' w cs xs o
 | [],xs,o,_,_,h=>by simp only [Rs] at *; exact h
 | c::cs,xs,o,hc,hM,h=>by
  simp only [Rs,bj,kq,Bool.and_eq_true] at *
  obtain ⟨x,xs',o1,o2,h1,h2,h3,h4⟩:=h
  exact ⟨x,xs',o1,o2,h1,h2,bV hI c x o1 hc.1 (hM.imp id And.left) h3,bJ hI cs xs' o2 hc.2 (hM.imp id And.right) h4⟩
end

def cz (w:World) (Imm Im:Nat→Prop):Gh:=⟨0,w,[],Imm,Im,[]⟩
def V0:bF→Value:=fun _=>undef
def GM (Imm Im:Nat→Prop) (w:World) (res:AV) (e:Ending) (w':World):Prop :=
 ∃ x,e = .returned x∧dq [] w w'∧∃ (Imm':Nat→Prop) (o:List Nat),(∀ b,Imm b→Imm' b)∧(∀ b,Imm' b→Imm b∨(w.heap.size≤b∧b<w'.heap.size)) ∧
  R (cz w Imm' Im) V0 w' res x o∧o.Nodup∧∀ b∈o,w.heap.size≤b∧b<w'.heap.size∧¬ Imm' b
def bA (P:Program) (f:FuncId) (args:List AV) (res:AV):Prop :=
 ∀ (Imm Im:Nat→Prop) (w:World) (xs:List Value),(∀ b,Imm b∨Im b→b<w.heap.size)→Rs (cz w Imm Im) V0 w args xs []→Calls P f xs.toArray w (GM Imm Im w res)
def uw (N:List aJ):AV→AV
 | .v x => .v x
 | .fl _ z xs => .fl .shr z xs
 | .fr _ _ z xs => .fr .shr true z xs
 | .same l=>match pf N l with
  | .fl _ z xs => .fl .shr z xs
  | .fr _ _ z xs => .fr .shr true z xs
  | .v x => .v x
  | .mkr _ xs => .fl .shr 1 xs
  | _ => .any
 | .mkr _ xs => .fl .shr 1 xs
 | _ => .any
def lN (N:List aJ) (x:Operand):AV :=
 match rd N x with
 | .agg cs => .agg (cs.map (uw N))
 | av=>uw N av
section
variable {g:Gh} {V:bF→Value} {w:World} {N:List aJ} {oN:List Nat}
theorem yF {g':Gh} {V':bF→Value} (hI:g'.Imm=g.Imm) (hM:∀ b,g.Im b∨b∈oN→g'.Im b) {m:Md} {z:Nat} {xs:List Value} {x:Value} {o:List Nat} (ho:∀ b∈o,b∈oN) (h:R g V w (.fl m z xs) x o) :
  R g' V' w (.fl .shr z xs) x []:=by
 cases m with
 | own T =>
  simp only [R,bW] at *;obtain ⟨a,n,c,h1,h2,h3,h4,h5,h6⟩:=h;refine ⟨a,n,c,h1,h2,h3,h4,trivial,fun hne => ?_⟩;obtain ⟨ad,rfl,_⟩:=h4 hne;refine ⟨ad,rfl,.inr (hM _ (.inr (ho _ ?_)))⟩;rw [h6,h1.1]; simp [Value.ownBlock]
 | ro =>
  simp only [R,bW] at *;obtain ⟨a,n,c,h1,h2,h3,h4,h5,h6⟩:=h;exact ⟨a,n,c,h1,h2,h3,h4,trivial,fun hne=>let ⟨ad,e,hi⟩:=h6 hne; ⟨ad,e,.inl (hI ▸ hi)⟩⟩
 | shr =>
  simp only [R,bW] at *;obtain ⟨a,n,c,h1,h2,h3,h4,h5,h6⟩:=h;exact ⟨a,n,c,h1,h2,h3,h4,trivial,fun hne=>let ⟨ad,e,hi⟩:=h6 hne; ⟨ad,e,hi.imp (fun h=>hI ▸ h) fun h=>hM _ (.inl h)⟩⟩
theorem DM {g':Gh} {V':bF→Value} (hI:g'.Imm=g.Imm) (hM:∀ b,g.Im b∨b∈oN→g'.Im b) {m:Md} {s:Bool} {z:Nat} {cs:List IC} {x:Value} {o:List Nat} (ho:∀ b∈o,b∈oN) (h:R g V w (.fr m s z cs) x o) :
  R g' V' w (.fr .shr true z cs) x []:=by simp only [R] at *;obtain ⟨vs,a,n,c,h1,h2,h3,h4,h5,h6⟩:=h;have hf:=yF (V:=V) (V':=V') (x:=x) (z:=z) (xs:=vs) hI hM ho (by simp only [R]; exact ⟨a,n,c,h1,h2,h3,h4,h5⟩);simp only [R] at hf;obtain ⟨a',n',c',k1,k2,k3,k4,k5⟩:=hf;refine ⟨vs,a',n',c',k1,k2,k3,k4,k5,dc (fun b h => ?_) (fun _ _=>rfl) cs vs h6⟩;exact (Au h).imp (fun h=>hI ▸ h) fun h=>hM _ (.inl h)
theorem uY {g':Gh} {V':bF→Value} (hM:∀ b,g.Im b∨b∈oN→g'.Im b) {E:TypeId} {xs:List Value} {x:Value} {o:List Nat} (ho:∀ b∈o,b∈oN) (h:R g V w (.mkr E xs) x o):R g' V' w (.fl .shr 1 xs) x []:=by
 simp only [R,bW] at *;rcases h with ⟨rfl,rfl,rfl⟩ | ⟨b,k,n,cap,cur,fz,rfl,h2,h3,h4,h5,h6,h7,h8,rfl⟩
 ·exact ⟨none,0,0,⟨rfl,Nat.le_refl _⟩,by simp,by simp,fun h=>absurd rfl h,trivial,fun h=>absurd rfl h⟩
 refine ⟨some ⟨b,k,none⟩,n,cap,⟨rfl,h2⟩,by omega,h4,fun _=>⟨_,rfl,fun j u hu => ?_⟩,trivial,fun _=>⟨_,rfl,.inr (hM b (.inr (ho b (by simp))))⟩⟩;rw [cw,cell_of_row w b _ _ E fz h5];rw [← h8,List.getElem?_take] at hu;split at hu
 ·simpa using hu
 ·cases hu
theorem Cm {g':Gh} {V':bF→Value} (hI:g'.Imm=g.Imm) (hM:∀ b,g.Im b∨b∈oN→g'.Im b) (hN:Es g V w N oN) {av:AV} {x:Value} {o:List Nat} (ho:∀ b∈o,b∈oN) (h:R g V w av x o):R g' V' w (uw N av) x []:=by
 cases av with
 | v y=>simp only [R,uw] at *; exact ⟨h.1,trivial⟩
 | fl m z xs =>
  exact yF (V':=V') hI hM ho h
 | fr m s z xs =>
  exact DM (V':=V') hI hM ho h
 | mkr E xs =>
  exact uY (V':=V') hM ho h
 | same l =>
  simp only [R] at h;obtain ⟨o',hs,hr⟩:=lm hN l;rw [h.1];simp only [uw]
  cases hl:pf N l with
  | fl m z xs =>
   rw [hl] at hr;exact yF (V':=V') hI hM hs hr
  | fr m s z xs =>
   rw [hl] at hr;exact DM (V':=V') hI hM hs hr
  | v y=>rw [hl] at hr; simp only [R] at *; exact ⟨hr.1,trivial⟩
  | mkr E xs =>
   rw [hl] at hr;exact uY (V':=V') hM hs hr
  | _=>simp [R]
 | _=>simp [R,uw]
theorem Bc {g':Gh} {V':bF→Value} (hI:g'.Imm=g.Imm) (hM:∀ b,g.Im b∨b∈oN→g'.Im b) (hN:Es g V w N oN):∀ {cs:List AV} {xs:List Value} {o:List Nat},(∀ b∈o,b∈oN)→Rs g V w cs xs o→Rs g' V' w (cs.map (uw N)) xs []
 | [],xs,o,_,h=>by simp only [Rs,List.map_nil] at *; exact ⟨h.1,trivial⟩
 | c::cs,xs,o,ho,h=>by
  simp only [Rs,List.map_cons] at *
  obtain ⟨x,xs',o1,o2,rfl,rfl,h1,h2⟩:=h
  exact ⟨x,xs',[],[],rfl,rfl,Cm hI hM hN (fun b hb=>ho b (by simp [hb])) h1,Bc hI hM hN (fun b hb=>ho b (by simp [hb])) h2⟩
theorem Ca {g':Gh} {V':bF→Value} {a:Act} (hI:g'.Imm=g.Imm) (hM:∀ b,g.Im b∨b∈oN→g'.Im b) (hv:∀ t,V (.slot t)=a.tmps.getD t undef) (hN:Es g V w N oN) (x:Operand):R g' V' w (lN N x) (a.eval x) []:=by
 obtain ⟨o',hs,hr⟩:=kt hv hN x;unfold lN
 cases hx:rd N x with
 | agg cs =>
  rw [hx] at hr;simp only [R] at *;obtain ⟨xs,e,h⟩:=hr;exact ⟨xs,e,Bc hI hM hN hs h⟩
 | _=>rw [hx] at hr; exact Cm hI hM hN hs hr
theorem fg {g':Gh} {V':bF→Value} {a:Act} (hI:g'.Imm=g.Imm) (hM:∀ b,g.Im b∨b∈oN→g'.Im b) (hv:∀ t,V (.slot t)=a.tmps.getD t undef) (hN:Es g V w N oN):∀ (xs:List Operand),Rs g' V' w (xs.map (lN N)) (xs.map a.eval) []
 | []=>by simp [Rs]
 | x::xs=>by
  simp only [List.map_cons,Rs]
  exact ⟨_,_,[],[],rfl,rfl,Ca hI hM hv hN x,fg hI hM hv hN xs⟩
end
section
variable {P:Program} {ty:TypeId} {pos:String} {aft:Array Edge} {gd:Option (Nat×Bool)}
theorem yD (N:List aJ) (d:Nat) (f:FuncId) {cal:Operand} {args:Array Operand} {ats:Array TypeId} (avs:List AV) (res:AV) (hcal:rd N cal = .v (.func (.func f) #[] #[])) (hrun:∀ args w,(callFunc f args).run P w = .ok (.enter f args) w)
  (hav:args.toList.map (lN N)=avs) (hf:bA P f avs res) (hcl:bq res=true) (hsh:eW res=true) :
  bh P ⟨some d,.call ⟨.value cal,args,ats⟩,ty,pos,aft,gd⟩ N [] [(d,res)] [.slot d]:=by
 have clr_closed:∀ (W:List bF) (av:AV),bq av=true→eh W av=true:=fun W=>by
  intro av
  exact AV.rec (motive_1:=fun av=>bq av=true→eh W av=true) (motive_2:=fun cs=>bj cs=true→cW W cs=true)
   (fun _=>rfl) (fun _ _=>rfl) (fun _ _ _ _=>rfl) (fun cs ih h=>by simp only [eh,bq] at *; exact ih h) (fun cs ih h=>by simp only [eh,bq] at *; exact ih h) (fun T cs ih h=>by simp only [eh,bq] at *; exact ih h)
   (fun l h=>by simp [bq] at h) (fun t i h=>by simp [bq] at h) (fun l k h=>by simp [bq] at h) (fun _ _ _=>rfl) (fun _ _ _ _ _=>rfl) (fun _ _=>rfl) (fun _ _ cs ih h=>by simp only [eh,bq] at *; exact ih h) (fun _ _ h=>by simp [bq] at h) (fun _ _ h=>by simp [bq] at h) (fun _ cs ih h=>by simp only [eh,bq] at *; exact ih h) (fun _ _=>rfl) (fun _ _ _=>rfl) (fun _ _ h=>by simp [bq] at h) (fun _ _=>rfl) (fun _=>rfl)
   (fun c cs ih1 ih2 h=>by simp only [cW,bj,Bool.and_eq_true] at *; exact ⟨ih1 h.1,ih2 h.2⟩) av
 refine bh.fresh rfl (clr_closed _ _ hcl) fun g V oN a w hp => ?_;have hcv:=bP hp.val hp.esN hcal
 have hr:(execOp a.eval ⟨some d,.call ⟨.value cal,args,ats⟩,ty,pos,aft,gd⟩).run P w = .ok (.enter f (args.map a.eval)) w:=by simp [execOp,resolve,hcv,Deferred.ofValue,invoke,hrun]
 have hargs:Rs (cz w g.Imm (fun b=>g.Im b∨b∈oN)) V0 w avs (args.toList.map a.eval) []:=by rw [← hav];exact fg (g:=g) (g':=cz w g.Imm (fun b=>g.Im b∨b∈oN)) rfl (fun b hb=>hb) hp.val hp.esN _
 have hc:=hf g.Imm (fun b=>g.Im b∨b∈oN) w _ (fun b hb=>by
  rcases hb with hb | hb | hb
  ·exact hp.imm b (.inl hb)
  ·exact hp.imm b (.inr hb)
  ·exact (hp.own b (by simp [hb])).1) hargs
 have ea:(args.toList.map a.eval).toArray=args.map a.eval:=by rw [← Array.toList_map]
 rw [ea] at hc;refine Yl.call hr (hc.mono ?_);rintro e w' ⟨x,rfl,hchg,Imm',o,hI,hnew,hR,hnd,hfr⟩;refine ⟨x,rfl,hchg,{ g with Imm:=fun b=>Imm' b },o,⟨rfl,rfl,rfl,rfl,rfl,hI,fun b hb => ?_⟩,hnew,?_,hnd,hfr⟩
 ·rcases hnew b hb with h | h
  ·exact .inl h
  ·exact .inr (.inl (Nat.le_trans hp.base h.1))
 ·exact bV (g:=cz w Imm' (fun b=>g.Im b∨b∈oN)) (g':={ g with Imm:=fun b=>Imm' b }) (fun _ h=>h) res x o hcl (.inr hsh) hR
inductive ng (P:Program):List ResultVar→List aJ→List AV→Prop
 | nil:ng P [] [] []
 | tmp (t:Nat) (av:AV) {rs:List ResultVar} {es:List aJ} {avs:List AV} (h:ng P rs es avs):ng P (.tmp t::rs) ((t,av)::es) (av::avs)
 | cellA (t:Nat) (T T':TypeId) (cs:List AV) {td:TypeDesc} {rs:List ResultVar} {es:List aJ} {avs:List AV} (hT:P.underlying T=some td) (ha:dn td=true) (hs:(P.info? T).map (·.size)=some cs.length) (h:ng P rs es avs) :
  ng P (.cell t T::rs) ((t,.box T' cs)::es) (.agg cs::avs)
 | cell1 (t:Nat) (T T':TypeId) (c:AV) {td:TypeDesc} {rs:List ResultVar} {es:List aJ} {avs:List AV} (hT:P.underlying T=some td) (ha:dn td=false) (h:ng P rs es avs) :
  ng P (.cell t T::rs) ((t,.box T' [c])::es) (c::avs)
 | cellR (t:Nat) (T T':TypeId) (vs:List Value) {td:TypeDesc} {rs:List ResultVar} {es:List aJ} {avs:List AV} (hT:P.underlying T=some td) (ha:dn td=true) (hs:(P.info? T).map (·.size)=some vs.length) (h:ng P rs es avs) :
  ng P (.cell t T::rs) ((t,.arr T' vs)::es) (.v (.agg vs.toArray)::avs)
def lJ (tmps:Array Value):ResultVar→Sem Value
 | .tmp t=>pure (tmps.getD t undef)
 | .cell a t=>do loadVar t (← asAddr (tmps.getD a undef))
theorem yT {g:Gh} {V:bF→Value} {w:World} {a:Act} (hv:∀ t,V (.slot t)=a.tmps.getD t undef) {rs:List ResultVar} {es:List aJ} {avs:List AV} (h:ng P rs es avs) :
  ∀ {o:List Nat},Es g V w es o→∃ (xs:List Value) (o' o'':List Nat),Rs g V w avs xs o'∧o.Perm (o'++o'') ∧
   (rs.mapM (lJ a.tmps)).run P w = .ok xs w:=by
 induction h with
 | nil=>intro o ho; simp only [Es] at ho; subst ho; exact ⟨[],[],[],by simp [Rs],by simp,by simp⟩
 | tmp t av h ih =>
  intro o ho;simp only [Es] at ho;obtain ⟨o1,o2,rfl,⟨hr,_⟩,h2⟩:=ho;obtain ⟨xs,o',o'',h3,h4,h5⟩:=ih h2;refine ⟨_::xs,o1++o',o'',by simp only [Rs]; exact ⟨_,xs,o1,o',rfl,rfl,hr,h3⟩,by rw [List.append_assoc]; exact h4.append_left o1,?_⟩;simp [List.mapM_cons,h5,lJ,hv]
 | cellA t T T' cs hT ha hs h ih =>
  intro o ho;simp only [Es] at ho;obtain ⟨o1,o2,rfl,⟨hr,_⟩,h2⟩:=ho;obtain ⟨xs,o',o'',h3,h4,h5⟩:=ih h2;simp only [R] at hr;obtain ⟨b,ys,os,hx,rfl,hh,hrs⟩:=hr;refine ⟨.agg ys.toArray::xs,os++o',b::o'',?_,?_,?_⟩
  ·simp only [Rs,R]; exact ⟨_,xs,os,o',rfl,rfl,⟨ys,rfl,hrs⟩,h3⟩
  ·rw [List.perm_iff_count] at h4 ⊢;intro c;have:=h4 c;simp only [List.count_append,List.count_cons] at this ⊢;omega
  ·have hl:=gj (P:=P) (w:=w) (a:=⟨b,0,none⟩) (xs:=ys) hT ha hs (aZ hrs) (fun j v hj=>by rw [cw,cell_of_row w b _ _ T' (0,0) hh]; simpa using hj);have:a.tmps.getD t undef = .pointer (some ⟨b,0,none⟩):=by rw [← hv]; exact hx
   have h6:(lJ a.tmps (.cell t T)).run P w = .ok (.agg ys.toArray) w:=by simp only [lJ,this,asAddr]; simpa using hl
   simp [List.mapM_cons,h6,h5]
 | cell1 t T T' c hT ha h ih =>
  intro o ho;simp only [Es] at ho;obtain ⟨o1,o2,rfl,⟨hr,_⟩,h2⟩:=ho;obtain ⟨xs,o',o'',h3,h4,h5⟩:=ih h2;simp only [R] at hr;obtain ⟨b,ys,os,hx,rfl,hh,hrs⟩:=hr;simp only [Rs] at hrs;obtain ⟨y,ys',p1,p2,rfl,rfl,hr1,rfl,rfl⟩:=hrs;refine ⟨y::xs,p1++o',b::o'',by simp only [Rs]; exact ⟨y,xs,p1,o',rfl,rfl,hr1,h3⟩,?_,?_⟩
  ·rw [List.perm_iff_count] at h4 ⊢;intro c;have:=h4 c;simp only [List.count_append,List.count_cons,List.append_nil] at this ⊢;omega
  ·have hl:=jr (P:=P) (w:=w) (a:=⟨b,0,none⟩) (v:=y) hT ha (by rw [cell_of_row w b _ _ T' (0,0) hh]; simp);have:a.tmps.getD t undef = .pointer (some ⟨b,0,none⟩):=by rw [← hv]; exact hx
   have h6:(lJ a.tmps (.cell t T)).run P w = .ok y w:=by simp only [lJ,this,asAddr]; simpa using hl
   simp [List.mapM_cons,h6,h5]
 | cellR t T T' vs hT ha hs h ih =>
  intro o ho;simp only [Es] at ho;obtain ⟨o1,o2,rfl,⟨hr,_⟩,h2⟩:=ho;obtain ⟨xs,o',o'',h3,h4,h5⟩:=ih h2;simp only [R] at hr;obtain ⟨b,hx,rfl,hh⟩:=hr;refine ⟨.agg vs.toArray::xs,o',b::o'',by simp only [Rs,R]; exact ⟨_,xs,[],o',rfl,by simp,⟨rfl,rfl⟩,h3⟩,?_,?_⟩
  ·rw [List.perm_iff_count] at h4 ⊢;intro c;have:=h4 c;simp only [List.count_append,List.count_cons,List.count_nil] at this ⊢;omega
  ·have hl:=gj (P:=P) (w:=w) (a:=⟨b,0,none⟩) (xs:=vs) hT ha hs rfl (fun j v hj=>by rw [cw,cell_of_row w b _ _ T' (0,0) hh]; simpa using hj);have:a.tmps.getD t undef = .pointer (some ⟨b,0,none⟩):=by rw [← hv]; exact hx
   have h6:(lJ a.tmps (.cell t T)).run P w = .ok (.agg vs.toArray) w:=by simp only [lJ,this,asAddr]; simpa using hl
   simp [List.mapM_cons,h6,h5]
def iW:List AV→AV
 | [av]=>av
 | avs => .tup avs
def CI (P:Program) (fn:Func) (Imm Im:Nat→Prop) (w:World) (res:AV):Exit→Act→World→Prop:=bodyPostM Fence.wide 0 P fn (GM Imm Im w res)
theorem sT {fn:Func} {tmps:Array Value} {R:Ending→World→Prop}:∀ (ds:List Nat) (w:World),ds.Nodup→(∀ D∈ds,w.heap[D]? = some (.deferred (some []))) →
  (∀ w',dq ds w w'→∃ v,(results fn tmps).run P w' = .ok v w'∧R (.returned v) w')→LeavesInM Fence.wide 0 P fn tmps R (ds.map EG) .returning w
 | [],w,_,_,h=>by
  obtain ⟨v,h1,h2⟩:=h w (dq.refl _ _)
  exact ⟨v,h1,h2⟩
 | D::ds,w,hn,hd,h=>by
  have hD:=hd D (by simp)
  have hn':=List.nodup_cons.1 hn
  have hlt:D<w.heap.size:=(Array.getElem?_eq_some_iff.1 hD).1
  have hchg:dq [D] w (w.putObj D (.deferred none)):=⟨rfl,rfl,rfl,by simp,fun k _ hk=>World.putObj_heap_other (by simpa using hk)⟩
  refine ⟨by simp,.inl ⟨D,_,rfl,run_takeDeferred hD,sT ds _ hn'.2 (fun E hE => ?_) fun w' hw => ?_⟩⟩
  ·exact (World.putObj_heap_other (fun e=>hn'.1 (by rw [← e]; exact hE))).trans (hd E (by simp [hE]))
  ·exact h w' ((hchg.mono (by simp)).trans (hw.mono (by intro x hx; simp [hx])))
theorem EN {fn:Func} {g0 g:Gh} {es:List aJ} {avs:List AV} {a:Act} {w:World} {Imm:Nat→Prop} (hio:g0.io=[]) (hI0:g0.Imm=Imm) (hle:g0.le g) (hret:ng P fn.results.toList es avs) (hcl:bj avs=true) (hs:eX g es a w) :
  CI P fn Imm g0.Im g0.w0 (iW avs) .ret a w∧CI P fn Imm g0.Im g0.w0 (iW avs) .normal a w:=by
 have key:LeavesInM Fence.wide 0 P fn a.tmps (GM Imm g0.Im g0.w0 (iW avs)) a.defers .returning w:=by
  obtain ⟨V,o,hst,hes0⟩:=hs;rw [hst.defers];refine sT g.ds w hst.dnd (fun D hD=>(hst.marks D hD).1) fun w' hcw => ?_
  have hes:Es g V w' es o:=dI (W:=[]) (fun _ h=>h) (fun _ h=>h) (fun _ _=>rfl) es o (fun e _=>by
   simp only [bX,fq,List.any_nil,List.all_nil,Bool.not_false,Bool.true_and,Bool.and_true,Bool.or_true]; exact iS e.2) (fun b hb=>by
   rcases hb with hb | hb
   ·exact hcw.block b (hst.own b hb).1 (fun hD=>(hst.marks b hD).2.1 hb)
   ·exact hcw.block b (hst.imm b hb) (fun hD=>(hst.marks b hD).2.2.2 hb)) hes0
  have hchg':dq g.io g.w0 w':=hst.chg.trans' hcw (fun x hx => .inr (hst.marks x hx).2.2.1);obtain ⟨xs,o',o'',hR,hperm,hrun⟩:=yT hst.val hret hes;have hnd:o'.Nodup:=(List.nodup_append.1 (hperm.nodup_iff.1 hst.nodup)).1;have hsub:∀ b∈o',b∈o:=fun b hb=>hperm.mem_iff.2 (by simp [hb]);refine ⟨(if h:xs.length=1 then xs.getD 0 undef else .tuple xs.toArray),?_,?_⟩
  ·have hres:results fn a.tmps=(do let vs ← fn.results.mapM (lJ a.tmps); pure (if h:vs.size=1 then vs[0] else .tuple vs)):=by unfold results;congr 1
   rw [hres,Array.mapM_eq_mapM_toList];simp only [Sem.run_bind,Sem.run_map,hrun,Result.andThen_ok];by_cases h:xs.length=1
   ·simp [h]
   ·simp [h]
  ·refine ⟨_,rfl,by have:=hchg'; rw [hle.w0,hle.io,hio] at this; exact this,g.Imm,o',by rw [← hI0]; exact hle.Imm,?_,?_,hnd,?_⟩
   ·intro b hb;have hnw:=hle.new b hb;rw [hio] at hnw;rcases hnw with h | h | h
    ·exact .inl (hI0 ▸ h)
    ·exact .inr ⟨h,Nat.lt_of_lt_of_le (hst.imm b (.inl hb)) hcw.size⟩
    ·exact absurd h (by simp)
   ·have hlen:=aZ hR;have hM:∀ b,g.Im b→(cz g0.w0 g.Imm g0.Im).Im b:=fun b hb=>by rw [hle.Im] at hb; exact hb
    have hR':=bJ (g:=g) (g':=cz g0.w0 g.Imm g0.Im) (V':=V0) (fun _ h=>h) avs xs o' hcl (.inl hM) hR;unfold iW;split
    ·rename_i av;simp only [Rs] at hR';obtain ⟨x,xs',o1,o2,rfl,rfl,h1,rfl,rfl⟩:=hR';simpa using h1
    ·rename_i hne
     have:xs.length≠1:=by
      intro h1;rw [hlen] at h1
      match avs,h1 with
      | [av],_=>exact hne av rfl
     simp only [this,dite_false,R];exact ⟨xs,rfl,hR'⟩
   ·intro b hb;have:=hst.own b (hsub b hb);rw [hle.w0,hle.io,hio] at this;exact ⟨this.2.1.resolve_right (by simp),Nat.lt_of_lt_of_le this.1 hcw.size,fun h=>this.2.2 (.inl h)⟩
 exact ⟨key,key⟩
end
end Go.Abs
end
