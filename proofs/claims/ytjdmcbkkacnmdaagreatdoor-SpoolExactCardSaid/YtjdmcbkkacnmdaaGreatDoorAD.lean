import Derived.Lib.ConvBytes
import Derived.ChangeKeysEq
import Derived.Test.YtjdmcbkkacnmdaaGreatDoorA7
section
namespace Go.Abs
def bm {S O:Type} (step:S→Option (S⊕O)):Nat→S→Option O
 | 0,_=>none
 | n+1,s=>match step s with
  | none=>none
  | some (.inr o)=>some o
  | some (.inl s')=>bm step n s'
open Classical in
noncomputable def uA (J:Nat→Act→World→Prop) (a:Act) (w:World):Nat:=if h:∃ m,J m a w∧∀ k,J k a w→m≤k then h.choose else 0
theorem zb {J:Nat→Prop} (n:Nat) (h:J n):∃ m,J m∧∀ k,J k→m≤k:=by
 induction n using Nat.strongRecOn with
 | _ n ih =>
  by_cases h':∃ k,k<n∧J k
  ·obtain ⟨k,hk,hj⟩:=h'; exact ih k hk hj
  ·exact ⟨n,h,fun k hk=>Nat.le_of_not_lt fun hlt=>h' ⟨k,hlt,hk⟩⟩
theorem uk {J:Nat→Act→World→Prop} {a:Act} {w:World} (h:∃ m,J m a w):∃ m,J m a w∧∀ k,J k a w→m≤k:=let ⟨n,hn⟩:=h; zb (J:=fun m=>J m a w) n hn
theorem vX {J:Nat→Act→World→Prop} {a:Act} {w:World} (h:∃ m,J m a w):J (uA J a w) a w:=by
 have:=uk h
 unfold uA; rw [dif_pos this]; exact this.choose_spec.1
theorem zD {J:Nat→Act→World→Prop} {a:Act} {w:World} {k:Nat} (h:J k a w):uA J a w≤k:=by
 have:=uk ⟨k,h⟩
 unfold uA; rw [dif_pos this]; exact this.choose_spec.2 k h
section
variable {P:Program} {Q:Exit→Act→World→Prop} {g0:Gh} {rnd:Option Nat}
def HT (rnd:Option Nat) (P:Program) (Q:Exit→Act→World→Prop) (g0:Gh) (c:Code) (es:List aO):Prop:=∀ (g:Gh) (a:Act) (w:World),g0.le g→fR g es a w→c.wpIn (FW rnd) 0 P Q a w
def PT (Q:Exit→Act→World→Prop) (g0:Gh) (e:Exit) (es:List aO):Prop:=∀ (g:Gh) (a:Act) (w:World),g0.le g→fR g es a w→Q e a w
theorem aj {x y:Code} {es:List aO} (h:HT rnd P (Exit.then (y.wpIn (FW rnd) 0 P Q) Q) g0 x es):HT rnd P Q g0 (.seq x y) es:=fun g a w hg hs=>wpIn_seq (h g a w hg hs)
theorem ak {y:Code} {es:List aO} (h:HT rnd P Q g0 y es):PT (Exit.then (y.wpIn (FW rnd) 0 P Q) Q) g0 .normal es:=h
theorem aE {es:List aO} (h:PT Q g0 .normal es):HT rnd P Q g0 .skip es:=fun g a w hg hs=>wpIn_skip (h g a w hg hs)
theorem aD {es:List aO} (h:PT Q g0 .ret es):HT rnd P Q g0 .ret es:=fun g a w hg hs=>wpIn_ret (h g a w hg hs)
theorem bF {id:Nat} {es:List aO} (h:PT Q g0 (.exit id) es):HT rnd P Q g0 (.exit id) es:=fun g a w hg hs=>wpIn_exit (h g a w hg hs)
theorem aU {id:Nat} {c:Code} {es:List aO} (h:HT rnd P (Exit.inBlock id Q) g0 c es):HT rnd P Q g0 (.block id c) es:=fun g a w hg hs=>wpIn_block (h g a w hg hs)
theorem BF {c:Operand} {x y:Code} {es:List aO} (b:Bool) (hc:rd es c = .v (.bool b)) (ht:b=true→HT rnd P Q g0 x es) (hf:b=false→HT rnd P Q g0 y es):HT rnd P Q g0 (.cond c x y) es:=by
 intro g a w hg hs
 have he:a.eval c = .bool b:=by
  obtain ⟨V,o,hst,hes⟩:=hs
  exact dD hst.val hes hc
 exact wpIn_cond_split he (fun h=>ht h g a w hg hs) (fun h=>hf h g a w hg hs)
def tB (P:Program) (ops:Array Oper) (o:Oper) (N T G:List aO) (W:List bN):Prop:=∀ i:Nat,ops[i]? = some o→px P ops i N T G W
def mz (P:Program) (ops:Array Oper) (E:Nat→aO):List Oper→List Sp→Prop
 | [],[]=>True
 | o::os,s::r=>tB P ops o (s.N.map E) (s.T.map E) (s.G.map E) s.W∧mz P ops E os r
 | _,_=>False
theorem uB {ops:Array Oper} {E:Nat→aO}:∀ (os:List Oper) (sps:List Sp) (k:Nat),(∀ j o,os[j]? = some o→ops[k+j]? = some o)→mz P ops E os sps→qi P ops E k sps
 | [],[],_,_,_=>trivial
 | [],_::_,_,_,h=>h.elim
 | _::_,[],_,_,h=>h.elim
 | o::os,s::r,k,hk,h=>⟨h.1 k (hk 0 o rfl),uB os r (k+1) (fun j o' hj=>by rw [show k+1+j=k+(j+1) by omega]; exact hk (j+1) o' (by simpa using hj)) h.2⟩
theorem xq {l:List Oper} {E:Nat→aO} {sps:List Sp} (h:mz P l.toArray E l sps):qi P l.toArray E 0 sps :=
 uB l sps 0 (fun j o hj=>by simpa using hj) h
theorem jh {ops:Array Oper} {o:Oper} {N T G:List aO} {W:List bN} (hg:o.guard=none) (h:aY P o N T G W):tB P ops o N T G W:=fun _ ho => .plain ho hg h
theorem CL {ops:Array Oper} {o:Oper} {N T G:List aO} {W:List bN} (j d:Nat) (want:Bool) {oj:Oper} (hg:o.guard=some (j,want)) (hj:ops[j]? = some oj) (hd:oj.dst=some d) (hN:(d,AV.v (.bool want))∈N) (h:aY P o N T G W):tB P ops o N T G W :=
 fun _ ho => .run j d want oj ho hg hj hd hN h
theorem xc {ops:Array Oper} {o:Oper} {N:List aO} (j d dd:Nat) (want:Bool) {oj:Oper} (hg:o.guard=some (j,want)) (hj:ops[j]? = some oj) (hd:oj.dst=some d) (hdd:o.dst=some dd) (hN:(d,AV.v (.bool (!want)))∈N):tB P ops o N [] [(dd,.v undef)] [.slot dd] :=
 fun _ ho => .skip j d dd want oj ho hg hj hd hdd hN
theorem zZ {ops:Array Oper} {o:Oper} {N:List aO} (j d dd:Nat) (want:Bool) {oj:Oper} (hg:o.guard=some (j,want)) (hj:ops[j]? = some oj) (hd:oj.dst=some d) (hdd:o.dst=some dd) (hN:(d,AV.v undef)∈N):tB P ops o N [] [(dd,.v undef)] [.slot dd] :=
 fun _ ho => .skipU j d dd want oj ho hg hj hd hdd hN
theorem tH {id:Nat} {l:List Oper} {n:Nat} {El es es':List aO} {init fin:List Nat} {sps:List Sp} (hm:P.follows .mixedOrders=true) (hn:g0.n=n) (hc:sx n l El init sps fin=true) (h1:init.map (iV El)=es) (h2:fin.map (iV El)=es')
  (hst:mz P l.toArray (iV El) l sps) (hQ:PT Q g0 .normal es'):HT rnd P Q g0 (.region id l.toArray true) es:=by
 intro g a w hg hs
 subst h1 h2
 exact vL hm (by rw [hg.n]; exact hn) hc (xq hst) hs fun g' a' w' hle hs'=>hQ g' a' w' (hg.trans hle) hs'
theorem zx (es:List aO):(List.range es.length).map (iV es)=es:=by
 apply List.ext_getElem?
 intro i
 simp only [List.getElem?_map]
 by_cases h:i<es.length
 ·rw [List.getElem?_range h]
  simp [iV,h]
 ·rw [List.getElem?_eq_none (by simpa using Nat.le_of_not_lt h),List.getElem?_eq_none (Nat.le_of_not_lt h)]; rfl
theorem fR.pick {g:Gh} {es es':List aO} {a:Act} {w:World} (idx:List Nat) (hok:(jS idx&&idx.all fun i=>Nat.blt i es.length)=true) (he:idx.map (iV es)=es') (h:fR g es a w):fR g es' a w:=by
 rw [Bool.and_eq_true] at hok
 subst he
 have h':fR g ((List.range es.length).map (iV es)) a w:=by rw [zx]; exact h
 exact h'.ofSub List.nodup_range (il hok.1) fun e hm=>List.mem_range.2 (lV.1 (List.all_eq_true.1 hok.2 e hm))
theorem dJ {c:Code} {es es':List aO} (idx:List Nat) (hok:(jS idx&&idx.all fun i=>Nat.blt i es.length)=true) (he:idx.map (iV es)=es') (h:HT rnd P Q g0 c es'):HT rnd P Q g0 c es :=
 fun g a w hg hs=>h g a w hg (hs.pick idx hok he)
theorem aB {e:Exit} {es es':List aO} (idx:List Nat) (hok:(jS idx&&idx.all fun i=>Nat.blt i es.length)=true) (he:idx.map (iV es)=es') (h:PT Q g0 e es'):PT Q g0 e es :=
 fun g a w hg hs=>h g a w hg (hs.pick idx hok he)
theorem vr {c:Code} (J:Nat→Act→World→Prop) (round:∀ n a w,J n a w→c.wpIn (FW rnd) 0 P (Exit.then (fun a' w'=>∃ m,m<n∧J m a' w') Q) a w) (n:Nat) (a:Act) (w:World) (h:J n a w):(Code.loop c).wpIn (FW rnd) 0 P Q a w:=by
 refine wpIn_loop (fun a w=>∃ m,J m a w) (fun a w=>uA J a w) ⟨n,h⟩ ?_
 intro a w hI
 have hm:=vX hI
 refine wpIn_mono (round _ a w hm) ?_
 intro e a' w' hq
 cases e with
 | normal =>
  obtain ⟨m,hlt,hJ⟩:=hq
  exact ⟨⟨m,hJ⟩,Nat.lt_of_le_of_lt (zD hJ) hlt⟩
 | exit id=>exact hq
 | goto l=>exact hq
 | ret=>exact hq
 | panic ch=>exact hq
 | outgrown=>exact hq
theorem Bu {S O:Type} {step:S→Option (S⊕O)} {c:Code} (I:S→List aO) (fuel:Nat) (s:S) (out:O) (h:bm step fuel s=some out)
  (round:∀ (s:S) (r:S⊕O),step s=some r→(∀ o,r = .inr o→o=out)→HT rnd P (Exit.then (fun a w=>∃ s' g,r = .inl s'∧g0.le g∧fR g (I s') a w) Q) g0 c (I s)):HT rnd P Q g0 (.loop c) (I s):=by
 intro g a w hg hs
 refine vr (fun n a w=>∃ s g,bm step n s=some out∧g0.le g∧fR g (I s) a w) ?_ fuel a w ⟨s,g,h,hg,hs⟩
 rintro n a w ⟨s,g,hl,hg,hs⟩
 cases n with
 | zero=>simp [bm] at hl
 | succ n =>
  simp only [bm] at hl
  cases hst:step s with
  | none=>simp [hst] at hl
  | some r =>
   have hr:=round s r hst (fun o ho=>by subst ho; simpa [hst] using hl) g a w hg hs
   refine wpIn_mono hr ?_
   intro e a' w' hq
   cases e with
   | normal =>
    obtain ⟨s',g',rfl,hg',hs'⟩:=hq
    simp only [hst] at hl
    exact ⟨n,Nat.lt_succ_self n,s',g',hl,hg',hs'⟩
   | exit id=>exact hq
   | goto l=>exact hq
   | ret=>exact hq
   | panic ch=>exact hq
   | outgrown=>exact hq
theorem bH {S O:Type} {r:S⊕O} {I:S→List aO} {es:List aO} (s':S) (hr:r = .inl s') (he:I s'=es):PT (Exit.then (fun a w=>∃ s' g,r = .inl s'∧g0.le g∧fR g (I s') a w) Q) g0 .normal es:=by
 intro g a w hg hs
 subst he
 exact ⟨s',g,hr,hg,hs⟩
def dq (args:List AV):List aO:=args.zipIdx.map fun p=>(p.2,p.1)
theorem tv {g:Gh} {V:bN→Value} {w:World} (hV:∀ av x o,bk av=true→R g V0 w av x o→R g V w av x o):∀ (args:List AV) (xs:List Value) (k:Nat),br args=true→args.all dY=true→Rs g V0 w args xs []→(∀ i x,xs[i]? = some x→V (.slot (k+i))=x) →
  Es g V w ((args.zipIdx k).map fun p=>(p.2,p.1)) []
 | [],xs,k,_,_,_,_=>rfl
 | av::args,xs,k,hc,hb,h,hv=>by
  simp only [Rs] at h
  obtain ⟨x,xs',o1,o2,rfl,ho,h1,h2⟩:=h
  obtain ⟨rfl,rfl⟩:=List.append_eq_nil_iff.1 ho.symm
  simp only [br,Bool.and_eq_true] at hc
  simp only [List.all_cons,Bool.and_eq_true] at hb
  simp only [List.zipIdx_cons,List.map_cons]
  have h0:V (.slot k)=x:=by simpa using hv 0 x rfl
  refine ⟨[],[],rfl,⟨?_,?_⟩,tv hV args xs' (k+1) hc.2 hb.2 h2 fun i y hy => ?_⟩
  ·show R g V w av (V (.slot k)) []
   rw [h0]; exact hV av x [] hc.1 h1
  ·cases av <;> first | trivial | (simp [dY] at hb)
  ·have:=hv (i+1) y (by simpa using hy)
   rwa [show k+1+i=k+(i+1) by omega]
theorem DT {f:FuncId} {fn:Func} {c:Code} {args:List AV} {res:AV} (hf:P.funcs[f]? = some fn) (hb:fn.body=some c) (hk:args.length≤fn.ntmps) (hcl:br args=true) (hnb:args.all dY=true)
  (h:∀ g0:Gh,g0.n=fn.ntmps→g0.io=[]→HT none P (CS P fn g0.Imm g0.Im g0.w0 res) g0 c (dq args)):cg P f args res:=by
 intro Imm Im w xs himm hR
 have hlen:=aQ hR
 refine callsIn_wide.1 (callsIn_of_wp_marks (n:=0) (F:=Fence.wide) hf hb trivial ?_)
 have hg:=h ⟨fn.ntmps,w,[],Imm,Im,[]⟩ rfl rfl ⟨fn.ntmps,w,[],Imm,Im,[]⟩ { tmps:=xs.toArray++Array.replicate (fn.ntmps-xs.toArray.size) undef,defers:=[] } w (Gh.le_refl _)
 refine hg ⟨fun l=>match l with | .slot t=>(xs.toArray++Array.replicate (fn.ntmps-xs.toArray.size) undef).getD t undef | .cell _ _=>undef,[],⟨fun _=>rfl,?_,rfl,List.nodup_nil,by simp,List.nodup_nil,by simp,himm,ei.refl _ _⟩,?_⟩
 ·simp; omega
 ·unfold dq
  refine tv (g:=⟨fn.ntmps,w,[],Imm,Im,[]⟩) (fun av x o hc hr=>cl (fun _ h=>h) av x o hc (.inl fun _ h=>h) hr) args xs 0 hcl hnb ?_ ?_
  ·exact cn (g:=cv w Imm Im) (g':=⟨fn.ntmps,w,[],Imm,Im,[]⟩) (V:=V0) (V':=V0) (fun _ h=>h) args xs [] hcl (.inl fun _ h=>h) hR
  ·intro i x hx
   have hi:=(List.getElem?_eq_some_iff.1 hx).1
   simp only [Nat.zero_add,Array.getD_eq_getD_getElem?]
   rw [Array.getElem?_append_left (by simpa using hi)]
   simp [hx]
theorem aJ {fn:Func} {Imm Im:Nat→Prop} {w0:World} {es:List aO} {avs:List AV} {res:AV} (hio:g0.io=[]) (hI:g0.Imm=Imm) (hret:lU P fn.results.toList es avs) (hcl:br avs=true) (hres:jm avs=res) (hM:g0.Im=Im:=by rfl) (hw:g0.w0=w0:=by rfl):PT (CS P fn Imm Im w0 res) g0 .ret es:=by
 subst hres hM hw
 exact fun g a w hg hs=>(CG hio hI hg hret hcl hs).1
mutual
def nt:AV→AV
 | .any => .any
 | .v x => .v x
 | .fl (.own _) z xs => .fl .ro z xs
 | .fl m z xs => .fl m z xs
 | .agg cs => .agg (pu cs)
 | .tup cs => .tup (pu cs)
 | .box T cs => .box T (pu cs)
 | .same l => .same l
 | .ptr t i => .ptr t i
 | .eref l k => .eref l k
 | .cut l k => .cut l k
 | .arr T vs => .arr T vs
 | .glob gl => .glob gl
 | .obox p T cs => .obox p T (pu cs)
 | .clo f ts => .clo f ts
 | .cloB f cs => .cloB f (pu cs)
 | .inv J => .inv J
 | .asl t i => .asl t i
 | .hid J => .hid J
 | .mkr _ xs => .fl .ro 1 xs
 | .fr (.own _) s z xs => .fr .ro s z xs
 | .fr m s z xs => .fr m s z xs
def pu:List AV→List AV
 | []=>[]
 | c::cs=>nt c::pu cs
end
theorem oD:∀ (cs:List AV),(pu cs).length=cs.length
 | []=>by simp [pu]
 | c::cs=>by simp [pu,oD cs]
theorem DL {a b c d a' c':List Nat} (h1:a.Perm (a'++b)) (h2:c.Perm (c'++d)):(a++c).Perm ((a'++c')++(b++d)):=by
 rw [List.perm_iff_count] at *
 intro x
 have:=h1 x
 have:=h2 x
 simp only [List.count_append] at *
 omega
mutual
theorem zX {g:Gh} {V:bN→Value} {w:World}:∀ (av:AV) (x:Value) (o:List Nat),R g V w av x o→∃ o' o2:List Nat,o.Perm (o'++o2)∧∀ g':Gh,(∀ b,g.Imm b→g'.Imm b)→(∀ b,g.Im b→g'.Im b)→(∀ b∈o2,g'.Imm b)→R g' V w (nt av) x o'
 | .any,x,o,h=>⟨o,[],by simp,fun g' _ _ _=>by simp only [nt,R] at *; exact h⟩
 | .v y,x,o,h=>⟨o,[],by simp,fun g' _ _ _=>by simp only [nt,R] at *; exact h⟩
 | .fl (.own T) z xs,x,o,h=>⟨[],o,by simp,fun g' hI hM h2=>by
   simp only [nt,R,ck] at *
   obtain ⟨a,n,c,h1,h3,h4,h5,h6,h7⟩:=h
   refine ⟨a,n,c,h1,h3,h4,h5,trivial,fun hne => ?_⟩
   obtain ⟨ad,rfl,_⟩:=h5 hne
   exact ⟨ad,rfl,h2 _ (by rw [h7,h1.1]; simp [Value.ownBlock])⟩⟩
 | .fl .ro z xs,x,o,h=>⟨o,[],by simp,fun g' hI hM _=>gH (W:=[]) hI hM (fun _ _=>rfl) (.fl .ro z xs) x o (gG _) (fun _ _=>rfl) h⟩
 | .fl .shr z xs,x,o,h=>⟨o,[],by simp,fun g' hI hM _=>gH (W:=[]) hI hM (fun _ _=>rfl) (.fl .shr z xs) x o (gG _) (fun _ _=>rfl) h⟩
 | .agg cs,x,o,h=>by
  simp only [R] at h
  obtain ⟨xs,rfl,h⟩:=h
  obtain ⟨o',o2,hp,hr⟩:=nH cs xs o h
  exact ⟨o',o2,hp,fun g' hI hM h2=>by simp only [nt,R]; exact ⟨xs,rfl,hr g' hI hM h2⟩⟩
 | .tup cs,x,o,h=>by
  simp only [R] at h
  obtain ⟨xs,rfl,h⟩:=h
  obtain ⟨o',o2,hp,hr⟩:=nH cs xs o h
  exact ⟨o',o2,hp,fun g' hI hM h2=>by simp only [nt,R]; exact ⟨xs,rfl,hr g' hI hM h2⟩⟩
 | .box T cs,x,o,h=>by
  simp only [R] at h
  obtain ⟨b,xs,os,rfl,rfl,hh,h⟩:=h
  obtain ⟨o',o2,hp,hr⟩:=nH cs xs os h
  exact ⟨b::o',o2,by simpa using hp.cons b,fun g' hI hM h2=>by simp only [nt,R]; exact ⟨b,xs,o',rfl,rfl,hh,hr g' hI hM h2⟩⟩
 | .same l,x,o,h=>⟨o,[],by simp,fun g' _ _ _=>by simp only [nt,R] at *; exact h⟩
 | .ptr t i,x,o,h=>⟨o,[],by simp,fun g' _ _ _=>by simp only [nt,R] at *; exact h⟩
 | .eref l k,x,o,h=>⟨o,[],by simp,fun g' _ _ _=>by simp only [nt,R] at *; exact h⟩
 | .cut l k,x,o,h=>⟨o,[],by simp,fun g' _ _ _=>by simp only [nt,R] at *; exact h⟩
 | .arr T vs,x,o,h=>⟨o,[],by simp,fun g' _ _ _=>by simp only [nt,R] at *; exact h⟩
 | .glob gl,x,o,h=>⟨o,[],by simp,fun g' hI hM _=>by simp only [nt,R] at *; exact ⟨fun p hp=>let ⟨h1,h2⟩:=h.1 p hp; ⟨h1.imp (hI _) (hM _),h2⟩,h.2⟩⟩
 | .obox true T cs,x,o,h=>by
  simp only [R] at h
  obtain ⟨b,xs,os,rfl,rfl,hh,h⟩:=h.1 trivial
  obtain ⟨o',o2,hp,hr⟩:=nH cs xs os h
  exact ⟨b::o',o2,by simpa using hp.cons b,fun g' hI hM h2=>by simp only [nt,R]; exact ⟨fun _=>⟨b,xs,o',rfl,rfl,hh,hr g' hI hM h2⟩,fun h=>by cases h⟩⟩
 | .obox false T cs,x,o,h=>by
  simp only [R] at h
  obtain ⟨rfl,rfl⟩:=h.2 trivial
  exact ⟨[],[],by simp,fun g' _ _ _=>by simp [nt,R]⟩
 | .clo f ts,x,o,h=>⟨o,[],by simp,fun g' _ _ _=>by simp only [nt,R] at *; exact h⟩
 | .cloB f cs,x,o,h=>by
  simp only [R] at h
  obtain ⟨xs,rfl,h⟩:=h
  obtain ⟨o',o2,hp,hr⟩:=nH cs xs o h
  exact ⟨o',o2,hp,fun g' hI hM h2=>by simp only [nt,R]; exact ⟨xs,rfl,hr g' hI hM h2⟩⟩
 | .inv J,x,o,h=>⟨o,[],by simp,fun g' hI hM _=>by simp only [nt,R] at *; exact J.stab _ _ _ _ o w w hI hM (fun _ _=>rfl) h⟩
 | .asl t i,x,o,h=>⟨o,[],by simp,fun g' _ _ _=>by simp only [nt,R] at *; exact h⟩
 | .hid J,x,o,h=>⟨o,[],by simp,fun g' hI hM _=>by simp only [nt,R] at *; exact J.stab _ _ _ _ x o w w hI hM (fun _ _=>rfl) h⟩
 | .mkr E xs,x,o,h=>⟨[],o,by simp,fun g' hI hM h2=>by
   simp only [nt]
   have h':=tu (g:=g) (V:=V) (V':=V) (w:=w) (oN:=o) (g':={ g with Im:=fun b=>b∈o∨g.Im b }) (fun b hb=>hb.symm) (fun b hb=>hb) h
   simp only [R,ck] at h h' ⊢
   rcases h with ⟨rfl,rfl,rfl⟩ | ⟨b,k,n,cap,cur,fz,rfl,_,_,_,_,_,_,_,rfl⟩
   ·exact ⟨none,0,0,⟨rfl,Nat.le_refl _⟩,by simp,by simp,fun h=>absurd rfl h,trivial,fun h=>absurd rfl h⟩
   obtain ⟨a,n',c,⟨e,hnc⟩,h3,h4,h5,_,_⟩:=h'
   cases e
   exact ⟨_,_,_,⟨rfl,hnc⟩,h3,h4,h5,trivial,fun _=>⟨_,rfl,h2 _ (by simp)⟩⟩⟩
 | .fr (.own T) s z cs,x,o,h=>⟨[],o,by simp,fun g' hI hM h2=>by
   simp only [nt,R,ck] at *
   obtain ⟨vs,a,n,c,h1,h3,h4,h5,⟨h6,h7⟩,h8⟩:=h
   refine ⟨vs,a,n,c,h1,h3,h4,h5,⟨trivial,fun hne => ?_⟩,dr (fun b h=>gR hI hM h) (fun _ _=>rfl) cs vs h8⟩
   obtain ⟨ad,rfl,_⟩:=h5 hne
   exact ⟨ad,rfl,h2 _ (by rw [h7,h1.1]; simp [Value.ownBlock])⟩⟩
 | .fr .ro s z xs,x,o,h=>⟨o,[],by simp,fun g' hI hM _=>gH (W:=[]) hI hM (fun _ _=>rfl) (.fr .ro s z xs) x o (gG _) (fun _ _=>rfl) h⟩
 | .fr .shr s z xs,x,o,h=>⟨o,[],by simp,fun g' hI hM _=>gH (W:=[]) hI hM (fun _ _=>rfl) (.fr .shr s z xs) x o (gG _) (fun _ _=>rfl) h⟩
theorem nH {g:Gh} {V:bN→Value} {w:World}:∀ (cs:List AV) (xs:List Value) (o:List Nat),Rs g V w cs xs o→∃ o' o2:List Nat,o.Perm (o'++o2)∧∀ g':Gh,(∀ b,g.Imm b→g'.Imm b)→(∀ b,g.Im b→g'.Im b)→(∀ b∈o2,g'.Imm b)→Rs g' V w (pu cs) xs o'
 | [],xs,o,h=>⟨o,[],by simp,fun g' _ _ _=>by simp only [pu,Rs] at *; exact h⟩
 | c::cs,xs,o,h=>by
  simp only [Rs] at h
  obtain ⟨x,xs',o1,o2,rfl,rfl,h1,h2⟩:=h
  obtain ⟨p1,p2,hp,hr⟩:=zX c x o1 h1
  obtain ⟨q1,q2,hq,hs⟩:=nH cs xs' o2 h2
  refine ⟨p1++q1,p2++q2,DL hp hq,fun g' hI hM h3 => ?_⟩
  simp only [pu,Rs]
  exact ⟨x,xs',p1,q1,rfl,rfl,hr g' hI hM (fun b hb=>h3 b (by simp [hb])),hs g' hI hM (fun b hb=>h3 b (by simp [hb]))⟩
end

theorem zI {g:Gh} {V:bN→Value} {w:World}:∀ (es:List aO) (i:Nat) (o:List Nat),Es g V w es o→∃ o' o2:List Nat,o.Perm (o'++o2)∧∀ g':Gh,(∀ b,g.Imm b→g'.Imm b)→(∀ b,g.Im b→g'.Im b)→(∀ b∈o2,g'.Imm b) →
  Es g' V w (es.modify i fun e=>(e.1,nt e.2)) o'
 | [],i,o,h=>⟨o,[],by simp,fun g' _ _ _=>by simp only [List.modify_nil]; exact h⟩
 | e::es,0,o,h=>by
  obtain ⟨o1,o2,rfl,⟨h1,ht⟩,h2⟩:=h
  obtain ⟨p1,p2,hp,hr⟩:=zX e.2 _ o1 h1
  refine ⟨p1++o2,p2,?_,fun g' hI hM h3 => ?_⟩
  ·rw [List.perm_iff_count] at *
   intro x
   have:=hp x
   simp only [List.count_append] at *
   omega
  ·simp only [List.modify_zero_cons]
   refine ⟨p1,o2,rfl,⟨hr g' hI hM h3,?_⟩,fv (W:=[]) hI hM (fun _ _=>rfl) es o2 (fun e _=>by simp only [cO,gK,List.any_nil,List.all_nil,Bool.not_false,Bool.true_and,Bool.and_true,Bool.or_true]; exact gG e.2) (fun _ _=>rfl) h2⟩
   obtain ⟨t,av⟩:=e
   cases av <;> try trivial
   case fl m z xs=>cases m <;> trivial
   case fr m s z xs=>cases m <;> trivial
   case box T cs =>
    intro b hb j hj
    exact ht b hb j (by simpa [oD] using hj)
 | e::es,i+1,o,h=>by
  obtain ⟨o1,o2,rfl,h1,h2⟩:=h
  obtain ⟨p1,p2,hp,hr⟩:=zI es i o2 h2
  refine ⟨o1++p1,p2,by rw [List.append_assoc]; exact hp.append_left o1,fun g' hI hM h3 => ?_⟩
  simp only [List.modify_succ_cons]
  exact ⟨o1,p1,rfl,wg (W:=[]) hI hM (fun _ _=>rfl) e o1 (by simp only [cO,gK,List.any_nil,List.all_nil,Bool.not_false,Bool.true_and,Bool.and_true,Bool.or_true]; exact gG e.2) (fun _ _=>rfl) h1,hr g' hI hM h3⟩
end
end Go.Abs
end
section
namespace Go.Abs
abbrev cq:Nat:=18446744073709551616
def aF {S A R:Type} (m:Option (S⊕A)) (k:S→Option R) (e:A→Option R):Option R :=
 match m with
 | none=>none
 | some (.inl s)=>k s
 | some (.inr a)=>e a
theorem bind_some {A R:Type} {m:Option A} {f:A→Option R} {r:R} (h:m.bind f=some r):∃ x,m=some x∧f x=some r:=by
 cases m with
 | none=>cases h
 | some x=>exact ⟨x,rfl,h⟩
theorem ao {R:Type} {c:Bool} {x y:Option R} {r:R} {G:Prop} (h:cond c x y=some r) (ht:c=true→x=some r→G) (hf:c=false→y=some r→G):G:=by
 cases c
 ·exact hf rfl h
 ·exact ht rfl h
theorem CI {R:Type} {c:Bool} {x y:Option R} {r:R} (hc:c=true) (h:cond c x y=some r):x=some r:=by subst hc; exact h
theorem Dm {R:Type} {c:Bool} {x y:Option R} {r:R} (hc:c=false) (h:cond c x y=some r):y=some r:=by subst hc; exact h
theorem mE {S A R:Type} {m:Option (S⊕A)} {k:S→Option R} {e:A→Option R} {r:R} (h:aF m k e=some r):∃ u,m=some u∧(∀ s,u = .inl s→k s=some r)∧(∀ a,u = .inr a→e a=some r):=by
 cases m with
 | none=>cases h
 | some u =>
  refine ⟨u,rfl,fun s hs => ?_,fun a ha => ?_⟩
  ·subst hs; exact h
  ·subst ha; exact h
def CX (k:IntKind) (a b:Int):Option Int:=if 0≤b then some (k.wrap (a * 2 ^ min b.toNat k.bits)) else none
def vm (k:IntKind) (a b:Int):Option Int:=if 0≤b then some (a.fdiv (2 ^ min b.toNat k.bits)) else none
def bL (i:Int) (n:Nat):Option Nat:=if 0≤i∧i<(n:Int) then some i.toNat else none
def aA {A:Type} (l:List A) (i:Nat):Option A:=l[i]?
theorem CT {k k':IntKind} {a b x:Int} (h:CX k a b=some x):pm .shl (.int k a) (.int k' b)=some (.int k x):=by
 unfold CX at h
 split at h
 ·rename_i hb; cases h; simp [pm,hb]
 ·cases h
theorem yN {k k':IntKind} {a b x:Int} (h:vm k a b=some x):pm .shr (.int k a) (.int k' b)=some (.int k x):=by
 unfold vm at h
 split at h
 ·rename_i hb; cases h; simp [pm,hb]
 ·cases h
theorem cc {i:Int} {n k:Nat} (h:bL i n=some k):i=(k:Int)∧k<n:=by
 unfold bL at h
 split at h
 ·rename_i hb; cases h; omega
 ·cases h
theorem Cu {A:Type} {f:A→Value} {e x:A} (h:e=x):some (f e)=some (f x):=by rw [h]
section
variable {P:Program} {Q:Exit→Act→World→Prop} {g0:Gh} {rnd:Option Nat}
theorem aT {id:Nat} {es:List aO} (h:PT Q g0 .normal es):PT (Exit.inBlock id Q) g0 .normal es:=h
theorem aH {id:Nat} {K:Act→World→Prop} {es:List aO} (h:PT Q g0 (.exit id) es):PT (Exit.then K Q) g0 (.exit id) es:=h
theorem bG {id:Nat} {es:List aO} (h:PT Q g0 .normal es):PT (Exit.inBlock id Q) g0 (.exit id) es:=fun g a w hg hs=>by
 simp only [Exit.inBlock,if_true]; exact h g a w hg hs
theorem zE {id id':Nat} {es:List aO} (hne:id'≠id) (h:PT Q g0 (.exit id') es):PT (Exit.inBlock id Q) g0 (.exit id') es:=fun g a w hg hs=>by
 simp only [Exit.inBlock]; rw [if_neg hne]; exact h g a w hg hs
theorem ay {K:Act→World→Prop} {es:List aO} (h:PT Q g0 .ret es):PT (Exit.then K Q) g0 .ret es:=h
theorem aV {id:Nat} {es:List aO} (h:PT Q g0 .ret es):PT (Exit.inBlock id Q) g0 .ret es:=h
def Af (av av':AV):Prop:=∀ g V w x o,R g V w av x o→R g V w av' x o
def qM (cs cs':List AV):Prop:=∀ g V w xs o,Rs g V w cs xs o→Rs g V w cs' xs o
theorem am (av:AV):Af av av:=fun _ _ _ _ _ h=>h
theorem dA (E:TypeId) (z:Nat):Af (.v (.slice none 0 0)) (.fl (.own E) z []):=fun g V w x o h=>by
 simp only [R,ck] at *
 obtain ⟨rfl,rfl⟩:=h
 exact ⟨none,0,0,⟨rfl,Nat.le_refl _⟩,by simp,by simp,fun h=>absurd rfl h,World.ownsRow_nil w 0 E z,rfl⟩
theorem aS (z:Nat):Af (.v (.slice none 0 0)) (.fl .shr z []):=fun g V w x o h=>by
 simp only [R,ck] at *
 obtain ⟨rfl,rfl⟩:=h
 exact ⟨none,0,0,⟨rfl,Nat.le_refl _⟩,by simp,by simp,fun h=>absurd rfl h,rfl,fun h=>absurd rfl h⟩
theorem cz:qM [] []:=fun _ _ _ _ _ h=>h
theorem ag {c c':AV} {cs cs':List AV} (h:Af c c') (hs:qM cs cs'):qM (c::cs) (c'::cs'):=fun g V w xs o hr=>by
 simp only [Rs] at *
 obtain ⟨x,xs',o1,o2,h1,h2,h3,h4⟩:=hr
 exact ⟨x,xs',o1,o2,h1,h2,h _ _ _ _ _ h3,hs _ _ _ _ _ h4⟩
theorem BA {cs cs':List AV} (h:qM cs cs'):Af (.agg cs) (.agg cs'):=fun g V w x o hr=>by
 simp only [R] at *
 obtain ⟨xs,e,hr⟩:=hr
 exact ⟨xs,e,h _ _ _ _ _ hr⟩
theorem Ay {T:TypeId} {cs cs':List AV} (h:qM cs cs'):Af (.box T cs) (.box T cs'):=fun g V w x o hr=>by
 simp only [R] at *
 obtain ⟨b,xs,os,h1,h2,h3,hr⟩:=hr
 exact ⟨b,xs,os,h1,h2,h3,h _ _ _ _ _ hr⟩
inductive lE:List aO→List aO→Prop
 | nil:lE [] []
 | same (e:aO) {es fs:List aO} (h:lE es fs):lE (e::es) (e::fs)
 | sub (t:Nat) {av av':AV} {es fs:List aO} (hs:Af av av') (hb:dY av'=true) (h:lE es fs):lE ((t,av)::es) ((t,av')::fs)
 | box (t:Nat) (T:TypeId) {cs cs':List AV} {es fs:List aO} (hs:qM cs cs') (hl:cs'.length=cs.length) (h:lE es fs):lE ((t,.box T cs)::es) ((t,.box T cs')::fs)
theorem wE {g:Gh} {V:bN→Value} {w:World} {es fs:List aO} (h:lE es fs):∀ {o:List Nat},Es g V w es o→Es g V w fs o:=by
 induction h with
 | nil=>intro o h; exact h
 | same e h ih=>rintro o ⟨o1,o2,rfl,h1,h2⟩; exact ⟨o1,o2,rfl,h1,ih h2⟩
 | @sub t av av' es fs hs hb h ih =>
  rintro o ⟨o1,o2,rfl,⟨h1,_⟩,h2⟩
  refine ⟨o1,o2,rfl,⟨hs _ _ _ _ _ h1,?_⟩,ih h2⟩
  cases av' <;> first | trivial | (simp [dY] at hb)
 | box t T hs hl h ih =>
  rintro o ⟨o1,o2,rfl,⟨h1,ht⟩,h2⟩
  exact ⟨o1,o2,rfl,⟨Ay hs _ _ _ _ _ h1,fun b hb i hi=>ht b hb i (by omega)⟩,ih h2⟩
theorem nM {c:Code} {es fs:List aO} (hs:lE es fs) (h:HT rnd P Q g0 c fs):HT rnd P Q g0 c es:=fun g a w hg hsat=>h g a w hg (by
 obtain ⟨V,o,h1,h2⟩:=hsat; exact ⟨V,o,h1,wE hs h2⟩)
theorem eW {e:Exit} {es fs:List aO} (hs:lE es fs) (h:PT Q g0 e fs):PT Q g0 e es:=fun g a w hg hsat=>h g a w hg (by
 obtain ⟨V,o,h1,h2⟩:=hsat; exact ⟨V,o,h1,wE hs h2⟩)
theorem cg.args {f:FuncId} {args args':List AV} {res:AV} (h:cg P f args' res) (hs:qM args args'):cg P f args res:=fun Imm Im w xs hi hr=>h Imm Im w xs hi (hs _ _ _ _ _ hr)
end
end Go.Abs
end
section
namespace Go.Abs
section
variable {P:Program} {ty:TypeId} {pos:String} {aft:Array Edge} {gd:Option (Nat×Bool)}
theorem aY.take {o:Oper} {N:List aO} {d t:Nat} {x:Operand} {av:AV} (ho:o.dst=some d) (hx:x = .tmp t) (hcl:eX [.slot d] av=true) (hr:∀ (a:Act) (w:World),(execOp a.eval o).run P w = .ok (.value (a.eval x)) w) :
  aY P o N [(t,av)] [(d,av)] [.slot d]:=by
 subst hx
 refine aY.core fun g V oN oT a w hd hp => ?_
 have hT:=hp.esT
 simp only [Es] at hT
 obtain ⟨o1,o2,rfl,⟨hR,ht⟩,rfl⟩:=hT
 refine (Yl.val (hr a w)).mono ?_
 rintro y w' ⟨rfl,rfl⟩
 have hlt:d<g.n:=hd d ho
 have hy:a.eval (.tmp t)=V (.slot t):=by simp only [Act.eval,hp.val]
 let V1:bN→Value:=fun l=>match l with
  | .slot u=>if u=d then V (.slot t) else V (.slot u)
  | .cell u i=>if u=d then V (.cell t i) else V (.cell u i)
 have hV1:∀ l,gK [.slot d] l=false→V1 l=V l:=by
  intro l hl
  have:=la d l hl
  cases l with
  | slot u=>simp only at this; simp [V1,this]
  | cell u i=>simp only at this; simp [V1,this]
 refine ⟨g,V1,o1,g.le_refl,fun b hb => .inl hb,fun b hb=>hp.imm b (.inl hb),ei.refl _ _,hV1,?_,?_,?_,?_⟩
 ·intro u
  rw [ho,hy,kc a d u _ (by rw [hp.size]; exact hlt)]
  simp only [V1]
  split
  ·rfl
  ·exact hp.val u
 ·refine ⟨o1,[],by simp,⟨?_,?_⟩,rfl⟩
  ·show R g V1 _ av (V1 (.slot d)) o1
   rw [show V1 (.slot d)=V (.slot t) by simp [V1]]
   exact gH (W:=[.slot d]) (fun _ h=>h) (fun _ h=>h) hV1 av _ o1 hcl (fun _ _=>rfl) hR
  ·cases av <;> try trivial
   case box T cs =>
    intro b hb i hi
    dsimp only at hb ht ⊢
    rw [show V1 (.slot d)=V (.slot t) by simp [V1]] at hb
    rw [show V1 (.cell d i)=V (.cell t i) by simp [V1]]
    exact ht b hb i hi
 ·have:=(List.nodup_append.1 hp.nodup).2.1; simpa using this
 ·intro b hb
  have:=hp.own b (by simp [hb])
  exact ⟨.inl (by simp [hb]),this.1,this.2⟩
theorem ko (N:List aO) (d t:Nat) (av:AV) (hcl:eX [.slot d] av=true):aY P ⟨some d,.move (.tmp t),ty,pos,aft,gd⟩ N [(t,av)] [(d,av)] [.slot d] :=
 aY.take rfl rfl hcl fun a w=>by simp [execOp,pure]
theorem lp (N:List aO) (d t:Nat) (av:AV) (hcl:eX [.slot d] av=true):aY P ⟨some d,.assign (.tmp t),ty,pos,aft,gd⟩ N [(t,av)] [(d,av)] [.slot d] :=
 aY.take rfl rfl hcl fun a w=>by simp [execOp,pure]
theorem kF (N:List aO) (t d:Nat) {i:Nat} (cs:List AV) (av:AV) (hi:cs.getD i .any=av) (hlt:i<cs.length) (hcl:eX [.slot d] av=true) (hcs:dP [.slot d] (cs.set i .any)=true) (hdt:d≠t) (hnb:dY av=true) :
  aY P ⟨some d,.extract (.tmp t) i,ty,pos,aft,gd⟩ N [(t,.tup cs)] [(t,.tup (cs.set i .any)),(d,av)] [.slot d]:=by
 refine aY.core fun g V oN oT a w hd hp => ?_
 have hT:=hp.esT
 simp only [Es] at hT
 obtain ⟨ob,o2,rfl,⟨hR,_⟩,rfl⟩:=hT
 simp only [R] at hR
 obtain ⟨xs,hx,hrs⟩:=hR
 have hlen:=aQ hrs
 obtain ⟨o1,o3,hperm,h1,h3⟩:=gz i hrs hlt
 rw [hi] at h1
 have hix:i<xs.length:=by omega
 have hrun:(execOp a.eval ⟨some d,.extract (.tmp t) i,ty,pos,aft,gd⟩).run P w = .ok (.value (xs.getD i undef)) w:=by
  have:a.eval (.tmp t) = .tuple xs.toArray:=by simp only [Act.eval,← hp.val]; exact hx
  simp [execOp,this,Instr.extract,hix]
 refine (Yl.val hrun).mono ?_
 rintro y w' ⟨rfl,rfl⟩
 have hlt2:d<g.n:=hd d rfl
 have hnd:(o1++o3).Nodup:=hperm.nodup_iff.1 (by have:=(List.nodup_append.1 hp.nodup).2.1; simpa using this)
 have hmem:∀ b,b∈o3++o1→b∈ob:=fun b hb=>hperm.mem_iff.2 (by simp at hb ⊢; exact hb.symm)
 refine ⟨g,cF V d _,o3++o1,g.le_refl,fun b hb => .inl hb,fun b hb=>hp.imm b (.inl hb),ei.refl _ _,fun l hl=>ct hl,fun u=>dt hp.val hp.size hlt2 u,?_,(List.perm_append_comm.nodup_iff).1 hnd,?_⟩
 ·have hVt:cF V d (xs.getD i undef) (.slot t)=V (.slot t):=by simp only [cF]; rw [if_neg fun e=>hdt e.symm]
  refine ⟨o3,o1,rfl,⟨?_,trivial⟩,o1,[],by simp,⟨?_,?_⟩,rfl⟩
  ·show R g _ _ (.tup _) (cF V d _ (.slot t)) o3
   rw [hVt]
   simp only [R]
   exact ⟨xs,hx,cT (W:=[.slot d]) (fun _ h=>h) (fun _ h=>h) (fun l hl=>ct hl) _ _ _ hcs (fun _ _=>rfl) h3⟩
  ·show R g _ _ av (cF V d _ (.slot d)) o1
   rw [cL]
   exact gH (W:=[.slot d]) (fun _ h=>h) (fun _ h=>h) (fun l hl=>ct hl) av _ o1 hcl (fun _ _=>rfl) h1
  ·cases av <;> first | trivial | (simp [dY] at hnb)
 ·intro b hb
  have:=hp.own b (by simp [hmem b hb])
  exact ⟨.inl (by simp [hmem b hb]),this.1,this.2⟩
end
section
variable {P:Program} {Q:Exit→Act→World→Prop} {g0:Gh} {rnd:Option Nat}
theorem aK {S A R:Type} {m:Option (S⊕A)} {k:S→Option R} {e:A→Option R} {r:R} {c:Code} {es:List aO} (h:aF m k e=some r) (I:S→List aO) (hk:∀ s,k s=some r→PT Q g0 .normal (I s))
  (hc:∀ u,m=some u→(∀ s,u = .inl s→PT Q g0 .normal (I s))→(∀ a,u = .inr a→e a=some r)→HT rnd P Q g0 c es):HT rnd P Q g0 c es:=by
 obtain ⟨u,hm,hl,hr⟩:=mE h
 exact hc u hm (fun s hs=>hk s (hl s hs)) hr
theorem bp {S T A R:Type} {step:S→Option (S⊕(T⊕A))} {fuel:Nat} {s0:S} {k:T→Option R} {e:A→Option R} {r:R} {id:Nat} {body:Code} (h:aF (bm step fuel s0) k e=some r) (I:S→List aO) (J:T→List aO)
  (hk:∀ s,k s=some r→PT Q g0 .normal (J s))
  (hround:∀ u,(∀ s,u = .inl s→PT Q g0 .normal (J s))→(∀ a,u = .inr a→e a=some r)→∀ s rr,step s=some rr→(∀ o,rr = .inr o→o=u) →
   HT rnd P (Exit.then (fun a w=>∃ s' g,rr = .inl s'∧g0.le g∧fR g (I s') a w) (Exit.inBlock id Q)) g0 body (I s)):HT rnd P Q g0 (.block id (.loop body)) (I s0):=by
 obtain ⟨u,hm,hl,hr⟩:=mE h
 exact aU (Bu I fuel s0 u hm fun s rr hst hout=>hround u (fun s hs=>hk s (hl s hs)) hr s rr hst hout)
end
end Go.Abs
end
section
namespace Go.Abs
def dO {A:Type} (by_:Nat) (l m:List A):Option (List A):=if (l.length+m.length) * by_≤140737488355328∧l.length+m.length≤140737488355328 then some (l++m) else none
def pq {A:Type} (l:List A) (lo hi:Int):Option (List A):=if 0≤lo∧lo≤hi∧hi≤(l.length:Int) then some ((l.drop lo.toNat).take (hi.toNat-lo.toNat)) else none
def pr (s:Hd) (lo hi:Int):Option Hd:=if 0≤lo∧lo≤hi∧hi≤(s.size:Int) then some (s.extract lo.toNat hi.toNat) else none
def eE (s:Hd) (i:Int):Option Int:=if 0≤i then (s.data.toList[i.toNat]?).map fun b=>(b.toNat:Int) else none
def kV (l:List Int):Hd:=⟨(l.map fun n=>UInt8.ofNat n.toNat).toArray⟩
theorem iq {A:Type} {b:Nat} {l m q:List A} (h:dO b l m=some q):l++m=q:=by
 unfold dO at h
 split at h
 ·exact Option.some.inj h
 ·cases h
theorem gY {A:Type} {b:Nat} {m q:List A} (h:dO b [] m=some q):m=q:=by simpa using iq h
theorem Eb {g:Gh} {V:bN→Value} {w:World} {N:List aO} {o:List Nat} {a:Act} {ys:List Value} (hv:∀ t,V (.slot t)=a.tmps.getD t undef) (h:Es g V w N o) {x:Operand} (hx:rd N x = .agg (ys.map .v)):a.eval x = .agg ys.toArray:=by
 obtain ⟨o',_,hr⟩:=kI hv h x
 rw [hx] at hr
 simp only [R] at hr
 obtain ⟨xs,e,hr⟩:=hr
 have:∀ (ys xs:List Value) (o:List Nat),Rs g V w (ys.map .v) xs o→xs=ys:=by
  intro ys
  induction ys with
  | nil=>intro xs o h; simp only [List.map_nil,Rs] at h; exact h.1
  | cons y ys ih =>
   intro xs o h
   simp only [List.map_cons,Rs,R] at h
   obtain ⟨x,xs',o1,o2,rfl,rfl,⟨rfl,_⟩,h2⟩:=h
   rw [ih _ _ h2]
 rw [e,this _ _ _ hr]
section
variable {A:Type} {f:A→Value}
theorem fe (l:List A):(l.map f).length=l.length * 1:=by simp
theorem qP {l:List A} {i:Nat} (h:i<l.length):i * 1+1≤(l.map f).length:=by simp; omega
theorem te {l:List A} {i:Nat} {x:A} (h:aA l i=some x):(l.map f)[i * 1]? = some (f x):=by
 unfold aA at h; simp [h]
theorem wJ {l:List A} {i:Nat} (x:A) (h:i<l.length):(l.map f).take (i * 1)++([f x]++(l.map f).drop (i * 1+1))=(l.set i x).map f:=by
 rw [Nat.mul_one]
 apply List.ext_getElem?
 intro j
 have:=mq (l.map f) [f x] i j (by simp; omega)
 simp only [List.length_cons,List.length_nil,Nat.zero_add] at this
 rw [this]
 simp only [List.getElem?_map,List.getElem?_set]
 by_cases h1:j<i
 ·rw [if_pos h1,if_neg (by omega)]
 ·rw [if_neg h1]
  by_cases h2:j<i+1
  ·have:j=i:=by omega
   subst this
   simp [h]
  ·rw [if_neg h2,if_neg (by omega)]
variable {z:Nat}
theorem nj {enc:A→List Value} (he:∀ x,(enc x).length=z) (l:List A):((l.map enc).flatten).length=l.length * z:=by
 induction l with
 | nil=>simp
 | cons x l ih=>simp [he,ih,Nat.add_mul]; omega
theorem Bg {enc:A→List Value} (he:∀ x,(enc x).length=z) {l:List A} {i:Nat} (h:i<l.length):i * z+z≤((l.map enc).flatten).length:=by
 rw [nj he]
 have:(i+1) * z≤l.length * z:=Nat.mul_le_mul_right _ h
 rw [Nat.add_mul] at this; omega
theorem rU {enc:A→List Value} (he:∀ x,(enc x).length=z):∀ (l:List A) (i:Nat),((l.map enc).flatten).drop (i * z)=((l.drop i).map enc).flatten
 | [],i=>by simp
 | x::l,0=>by simp
 | x::l,i+1=>by
  simp only [List.map_cons,List.flatten_cons,List.drop_succ_cons]
  rw [← rU he l i,Nat.add_mul,Nat.one_mul,Nat.add_comm,← List.drop_drop,← he x]
  simp
theorem kb {enc:A→List Value} (he:∀ x,(enc x).length=z) {l:List A} {i:Nat} {x:A} (h:aA l i=some x):(((l.map enc).flatten).drop (i * z)).take z=enc x:=by
 rw [rU he]
 unfold aA at h
 have hl:=(List.getElem?_eq_some_iff.1 h)
 rw [List.drop_eq_getElem_cons hl.1,hl.2]
 simp [← he x]
theorem xW {enc:A→List Value} (he:∀ x,(enc x).length=z) {l:List A} {i j:Nat} {x:A} {v:Value} (h:aA l i=some x) (hv:(enc x)[j]? = some v):((l.map enc).flatten)[i * z+j]? = some v:=by
 have h1:=kb he h
 have hj:j<z:=by have:=(List.getElem?_eq_some_iff.1 hv).1; rw [he] at this; exact this
 rw [← h1] at hv
 simp only [List.getElem?_take,List.getElem?_drop,hj,if_true] at hv
 exact hv
end
section
variable {P:Program} {ty:TypeId} {pos:String} {aft:Array Edge} {gd:Option (Nat×Bool)}
theorem iQ (N:List aO) (d:Nat) {T e:TypeId} (x:Nat) (y:Operand) {kd:IntKind} {m:Md} {xs:List Value} (n:Int) (i z:Nat) (l:bN) (hT:P.underlying T=some (.slice e)) (hz:(P.info? e).map (·.size)=some z) (h0:0<z)
  (hx:rd N (.tmp x) = .fl m z xs) (hl:pb N (.tmp x)=l) (hy:rd N y = .v (.int kd n)) (hn:n=(i:Int)) (hi:i * z+z≤xs.length) (hd:gK [.slot d] l=false) :
  aY P ⟨some d,.indexAddr T (.tmp x) y,ty,pos,aft,gd⟩ N [] [(d,.eref l (i * z))] [.slot d] :=
 tE N d x y i z l hT hz hx hl (by rw [hy,hn]) hi h0 hd
theorem gP {A:Type} (N:List aO) (d:Nat) {T e t':TypeId} (x y:Operand) {z by_:Nat} {my:Md} {ys zs:List Value} {l m q:List A} (hE:iN P T e z by_) (hx:rd N x = .v (.slice none 0 0)) (hy:rd N y = .fl my z ys) (hm:ys.length=m.length * z)
  (hq:dO by_ l m=some q) (hz:ys=zs) :
  aY P ⟨some d,.call ⟨.builtin .append,#[x,y],#[T,T]⟩,t',pos,aft,gd⟩ N [] [(d,.fl (.own e) z zs)] [.slot d]:=by
 subst hz
 unfold dO at hq
 split at hq
 ·rename_i h
  exact ry N d x y m.length hE hx hy hm (Nat.le_trans (Nat.mul_le_mul_right _ (by omega)) h.1) (by simp only [maxLen]; omega)
 ·cases hq
theorem CE {A:Type} (N:List aO) (d t:Nat) {T e t':TypeId} (x y:Operand) {z by_:Nat} {my:Md} {xs ys zs:List Value} {l m q:List A} (hE:iN P T e z by_) (hx:bw (N++[(t,.fl (.own e) z xs)]) x = .same (.slot t)) (hy:rd N y = .fl my z ys)
  (hn:xs.length=l.length * z) (hm:ys.length=m.length * z) (hq:dO by_ l m=some q) (hz:xs++ys=zs) :
  aY P ⟨some d,.call ⟨.builtin .append,#[x,y],#[T,T]⟩,t',pos,aft,gd⟩ N [(t,.fl (.own e) z xs)] [(t,.any),(d,.fl (.own e) z zs)] [.slot d]:=by
 subst hz
 unfold dO at hq
 split at hq
 ·rename_i h
  exact xf N d t x y l.length m.length hE hx hy hn hm h.1 (by simp only [maxLen]; omega)
 ·cases hq
theorem jH {A:Type} (N:List aO) (d t i:Nat) {T e t' T':TypeId} (x y:Operand) {z by_:Nat} {my:Md} {cs cs':List AV} {xs ys zs:List Value} {l m q:List A} (hE:iN P T e z by_) (hx:bw N x = .same (.cell t i)) (hc:cs.getD i .any = .fl (.own e) z xs) (hic:i<cs.length)
  (hy:rd N y = .fl my z ys) (hn:xs.length=l.length * z) (hm:ys.length=m.length * z) (hq:dO by_ l m=some q) (hz:xs++ys=zs) (hdt:d≠t) (hcs:cs.set i .any=cs') (hcl:dP [.slot d] cs'=true) :
  aY P ⟨some d,.call ⟨.builtin .append,#[x,y],#[T,T]⟩,t',pos,aft,gd⟩ N [(t,.box T' cs)] [(t,.box T' cs'),(d,.fl (.own e) z zs)] [.slot d]:=by
 subst hz hcs
 unfold dO at hq
 split at hq
 ·rename_i h
  exact qQ N d t i x y l.length m.length hE hx hc hic hy hn hm h.1 (by simp only [maxLen]; omega) hdt hcl
 ·cases hq
theorem Co {A:Type} {f:A→Value} (N:List aO) (d:Nat) {T e:TypeId} {x:Operand} {lo hi:Option Operand} {m:Md} (l:List A) (a b:Int) (q:List A) (hT:P.underlying T=some (.slice e)) (hz:(P.info? e).map (·.size)=some 1)
  (hx:rd N x = .fl m 1 (l.map f)) (hm:nF m=true)
  (hl:match lo with | some y=>∃ k,rd N y = .v (.int k a) | none=>a=0) (hh:match hi with | some y=>∃ k,rd N y = .v (.int k b) | none=>b=(l.length:Int)) (hq:pq l a b=some q) :
  aY P ⟨some d,.slice T x lo hi none,ty,pos,aft,gd⟩ N [] [(d,.fl m 1 (q.map f))] [.slot d]:=by
 unfold pq at hq
 split at hq
 ·rename_i h
  cases hq
  have ha:a=((a.toNat:Nat):Int):=by omega
  have hb:b=((b.toNat:Nat):Int):=by omega
  refine zo N d a.toNat b.toNat _ hT hz (by omega) hx hm ?_ ?_ (by omega) (by simp; omega) ?_
  ·cases lo with
   | none=>simp only at hl ⊢; omega
   | some y=>obtain ⟨k,hk⟩:=hl; exact ⟨k,by rw [hk,← ha]⟩
  ·cases hi with
   | none=>simp only at hh ⊢; simp; omega
   | some y=>obtain ⟨k,hk⟩:=hh; exact ⟨k,by rw [hk,← hb]⟩
  ·simp [List.map_take,List.map_drop]
 ·cases hq
theorem lQ (N:List aO) (d:Nat) {t:TypeId} {x:Operand} {lo hi:Option Operand} (s:Hd) (a b:Int) (q:Hd) (hT:P.underlying t=some .string) (hx:rd N x = .v (.string s))
  (hl:match lo with | some y=>∃ k,rd N y = .v (.int k a) | none=>a=0) (hh:match hi with | some y=>∃ k,rd N y = .v (.int k b) | none=>b=(s.size:Int)) (hq:pr s a b=some q) :
  aY P ⟨some d,.slice t x lo hi none,ty,pos,aft,gd⟩ N [] [(d,.v (.string q))] [.slot d]:=by
 unfold pr at hq
 split at hq
 ·rename_i h
  cases hq
  have ha:a=((a.toNat:Nat):Int):=by omega
  have hb:b=((b.toNat:Nat):Int):=by omega
  refine sP N d s a.toNat b.toNat hT hx ?_ ?_ (by omega) (by omega)
  ·cases lo with
   | none=>simp only at hl ⊢; omega
   | some y=>obtain ⟨k,hk⟩:=hl; exact ⟨k,by rw [hk,← ha]⟩
  ·cases hi with
   | none=>simp only at hh ⊢; omega
   | some y=>obtain ⟨k,hk⟩:=hh; exact ⟨k,by rw [hk,← hb]⟩
 ·cases hq
theorem CM (N:List aO) (d:Nat) {t:TypeId} {x y:Operand} {k:IntKind} (s:Hd) (i:Int) (q:Int) (hT:P.underlying t=some .string) (hx:rd N x = .v (.string s)) (hy:rd N y = .v (.int k i)) (hq:eE s i=some q) :
  aY P ⟨some d,.index t x y,ty,pos,aft,gd⟩ N [] [(d,.v (.int .u8 q))] [.slot d]:=by
 unfold eE at hq
 split at hq
 ·rename_i h
  have hi:i=((i.toNat:Nat):Int):=by omega
  cases hb:s.data.toList[i.toNat]? with
  | none=>rw [hb] at hq; cases hq
  | some b =>
   rw [hb] at hq
   simp only [Option.map_some,Option.some.injEq] at hq
   subst hq
   exact tn N d s i.toNat b hT hx (by rw [hy,← hi]) hb
 ·cases hq
theorem aW (N:List aO) (d t:Nat) {T T':TypeId} {td:TypeDesc} (x:Operand) {cs:List AV} (hT:P.underlying T=some td) (ha:ec td=true) (hs:(P.info? T).map (·.size)=some cs.length) (hx:bw (N++[(t,.box T' cs)]) x = .ptr t 0) (hcl:dP [.slot d] cs=true) :
  aY P ⟨some d,.load T x,ty,pos,aft,gd⟩ N [(t,.box T' cs)] [(d,.agg cs)] [.slot d]:=by
 refine aY.core fun g V oN oT a w hd hp => ?_
 have hT':=hp.esT
 simp only [Es] at hT'
 obtain ⟨ob,o2,rfl,⟨hR,_⟩,rfl⟩:=hT'
 have hax:=ce hp.val (bi.2 ⟨oN,_,rfl,hp.esN,hp.esT⟩) x
 rw [hx] at hax
 simp only [R] at hax hR
 obtain ⟨b,xs,os,h1,rfl,hh,hrs⟩:=hR
 obtain ⟨b2,h2,h3,_⟩:=hax
 rw [h1] at h2; cases h2
 have hload:=jc (P:=P) (w:=w) (a:=⟨b,0,none⟩) (xs:=xs) hT ha hs (aQ hrs) (fun j v hj=>by rw [dV,cell_of_row w b _ _ T' (0,0) hh]; simpa using hj)
 have hrun:(execOp a.eval ⟨some d,.load T x,ty,pos,aft,gd⟩).run P w = .ok (.value (.agg xs.toArray)) w:=by simp [execOp,Instr.loadAt,h3,Instr.sureAddr,hload]
 refine (Yl.val hrun).mono ?_
 rintro y w' ⟨rfl,rfl⟩
 have hlt:d<g.n:=hd d rfl
 refine ⟨g,cF V d _,os,g.le_refl,fun b hb => .inl hb,fun b hb=>hp.imm b (.inl hb),ei.refl _ _,fun l hl=>ct hl,fun u=>dt hp.val hp.size hlt u,?_,?_,?_⟩
 ·refine ⟨os,[],by simp,⟨?_,trivial⟩,rfl⟩
  show R g _ _ (.agg cs) (cF V d _ (.slot d)) os
  rw [cL]
  simp only [R]
  exact ⟨xs,rfl,cT (W:=[.slot d]) (fun _ h=>h) (fun _ h=>h) (fun l hl=>ct hl) _ _ _ hcl (fun _ _=>rfl) hrs⟩
 ·have:=(List.nodup_append.1 hp.nodup).2.1
  simp at this; exact this.2
 ·intro c hc
  have:=hp.own c (by simp [hc])
  exact ⟨.inl (by simp [hc]),this.1,this.2⟩
end
theorem iU {o:Option (Array Value)} {a:Array Value} {l:List Value} (h:o=some a) (h2:a.toList=l):o=some l.toArray:=by subst h; subst h2; rw [Array.toArray_toList]
theorem wU {g:Gh} {V:bN→Value} {w:World}:∀ {cs:List AV} {xs:List Value} {o o1:List Nat} (i:Nat),Rs g V w cs xs o→i<cs.length →
  R g V w (cs.getD i .any) (xs.getD i undef) o1→Rs g V w ((List.replicate cs.length AV.any).set i (cs.getD i .any)) xs o1
 | [],_,_,_,i,_,hi,_=>by simp at hi
 | c::cs,xs,o,o1,i,h,hi,h1=>by
  simp only [Rs] at h
  obtain ⟨x,xs',p1,p2,rfl,rfl,hc,hr⟩:=h
  have hany:∀ {ds:List AV} {ys:List Value} {q:List Nat},Rs g V w ds ys q→Rs g V w (List.replicate ds.length AV.any) ys []:=by
   intro ds
   induction ds with
   | nil=>intro ys q h; simp only [Rs] at h; simp [Rs,h.1]
   | cons d ds ih =>
    intro ys q h
    simp only [Rs] at h
    obtain ⟨y,ys',q1,q2,rfl,rfl,_,hr⟩:=h
    simp only [List.length_cons,List.replicate_succ,Rs]
    exact ⟨y,ys',[],[],rfl,rfl,by simp [R],ih hr⟩
  cases i with
  | zero =>
   simp only [List.length_cons,List.replicate_succ,List.set_cons_zero,List.getD_cons_zero,Rs] at h1 ⊢
   exact ⟨x,xs',o1,[],rfl,by simp,h1,hany hr⟩
  | succ i =>
   simp only [List.length_cons,List.replicate_succ,List.set_cons_succ,List.getD_cons_succ,Rs] at h1 ⊢
   exact ⟨x,xs',[],o1,rfl,by simp,by simp [R],wU i hr (by simpa using hi) h1⟩
theorem aY.split {P:Program} {o:Oper} {N T A B:List aO} {W:List bN} (t i:Nat) (cs c1 c2:List AV) (h:aY P o N T (A++(t,.tup cs)::B) W) (hi:i<cs.length)
  (e1:(List.replicate cs.length AV.any).set i (cs.getD i .any)=c1) (e2:cs.set i .any=c2):aY P o N T (A++(t,.tup c1)::(t,.tup c2)::B) W:=by
 intro g F a w K Q hd hs hc hk
 refine h g F a w K Q hd hs hc fun g' a' w' hle hs'=>hk g' a' w' hle ?_
 have hp:(N++((A++(t,AV.tup cs)::B)++F)).Perm ((t,AV.tup cs)::(N++((A++B)++F))):=by
  simp only [List.append_assoc,List.cons_append]
  rw [← List.append_assoc N A,← List.append_assoc N A]
  exact List.perm_middle
 have hq:((t,AV.tup c1)::(t,AV.tup c2)::(N++((A++B)++F))).Perm (N++((A++(t,AV.tup c1)::(t,AV.tup c2)::B)++F)):=by
  simp only [List.append_assoc,List.cons_append]
  rw [← List.append_assoc N A,← List.append_assoc N A]
  refine (List.Perm.trans ?_ List.perm_middle.symm)
  exact List.Perm.cons _ List.perm_middle.symm
 refine fR.perm ?_ hq
 obtain ⟨V,ow,hst,hes⟩:=hs'.perm hp
 simp only [Es] at hes
 obtain ⟨o1,o2,rfl,⟨hR,_⟩,hrest⟩:=hes
 simp only [R] at hR
 obtain ⟨xs,hx,hrs⟩:=hR
 obtain ⟨p1,p2,hpm,h1,h2⟩:=gz i hrs hi
 subst e1 e2
 have hpp:(o1++o2).Perm (p1++(p2++o2)):=by rw [← List.append_assoc]; exact hpm.append_right o2
 refine ⟨V,p1++(p2++o2),⟨hst.val,hst.size,hst.defers,hst.dnd,fun D hD=>let ⟨h1,h2,h3⟩:=hst.marks D hD; ⟨h1,fun hm=>h2 (hpp.mem_iff.2 hm),h3⟩,hpp.nodup_iff.1 hst.nodup,fun b hb=>hst.own b (hpp.mem_iff.2 hb),hst.imm,hst.chg⟩,?_⟩
 refine ⟨p1,p2++o2,rfl,⟨?_,trivial⟩,p2,o2,rfl,⟨?_,trivial⟩,hrest⟩
 ·simp only [R]; exact ⟨xs,hx,wU i hrs hi h1⟩
 ·simp only [R]; exact ⟨xs,hx,h2⟩
end Go.Abs
end
section
namespace Go.Abs
section
variable {g:Gh} {V:bN→Value} {w:World}
end
section
variable {P:Program} {ty:TypeId} {pos:String} {aft:Array Edge} {gd:Option (Nat×Bool)}
end
theorem zQ {α β:Type} {f:α→β} {l:List α} {i:Nat} {v:α} (h:aA l i=some v):(List.map f l)[i]? = some (f v):=by
 unfold aA at h
 simp [h]
end Go.Abs
end
section
namespace Go.Abs
def aP (s:Hd):List Int:=s.data.toList.map fun b=>(b.toNat:Int)
section
variable {P:Program} {ty:TypeId} {pos:String} {aft:Array Edge} {gd:Option (Nat×Bool)}
theorem sW (N:List aO) (x d:Nat) {T e E:TypeId} {vs:List Value} (ht:P.underlying T=some (.slice e)) (he:P.underlying e=some (.int .u8)) (hne:vs≠[]) :
  aY P ⟨some d,.convert T T (.tmp x),ty,pos,aft,gd⟩ N [(x,.fl (.own E) 1 vs)] [(d,.fl .ro 1 vs)] [.slot d]:=by
 refine aY.core fun g V oN oT a w hd hp => ?_
 have hT:=hp.esT
 simp only [Es] at hT
 obtain ⟨ob,o2,rfl,⟨hR,_⟩,rfl⟩:=hT
 simp only [R,ck] at hR
 obtain ⟨A,n,c,⟨hx,hnc⟩,hlen,hone,hrd,how,ho⟩:=hR
 obtain ⟨_,how⟩:=how
 rcases how with ⟨h1,h2⟩ | ⟨b,cap,cur,h1,_,hh,_,_,_,_⟩
 ·exfalso; rw [h2] at hlen; exact hne (List.eq_nil_of_length_eq_zero (by omega))
 have hxe:V (.slot x) = .slice (some ⟨b,0,none⟩) n cap:=h1
 have hev:a.eval (.tmp x) = .slice (some ⟨b,0,none⟩) n cap:=by simp only [Act.eval,← hp.val]; exact hxe
 have hob:ob=[b]:=by rw [ho,hxe]; rfl
 subst hob
 have hw:w.freeze ⟨b,cur.size,none⟩ 1={ w with heap:=w.heap.modify b fun | .cells c elem (lo,hi) => .cells c elem (if lo==hi then (cur.size,cur.size+1) else (min lo cur.size,max hi (cur.size+1))) | o=>o }:=by
  simp [World.freeze]
  rfl
 have hnew:(w.freeze ⟨b,cur.size,none⟩ 1).heap[b]? = some (.cells cur E (cur.size,cur.size+1)):=by
  rw [hw]; simp only [Array.getElem?_modify,hh]; simp
 have hold:∀ k,k≠b→(w.freeze ⟨b,cur.size,none⟩ 1).heap[k]? = w.heap[k]? := by
  intro k hk
  rw [hw]; simp only [Array.getElem?_modify]; rw [if_neg (fun e=>hk e.symm)]
 have hsz:(w.freeze ⟨b,cur.size,none⟩ 1).heap.size=w.heap.size:=by rw [hw]; simp
 have hshape:w.shape? b=some (E,cur.size):=by simp [World.shape?,hh]
 have hrun:(execOp a.eval ⟨some d,.convert T T (.tmp x),ty,pos,aft,gd⟩).run P w = .ok (.value (.slice (some ⟨b,0,none⟩) n cap)) (w.freeze ⟨b,cur.size,none⟩ 1):=by
  simp [execOp,hev,convert,run_underlying ht,run_underlying he,markStringish,hshape]
 refine (Yl.val hrun).mono ?_
 rintro y w' ⟨rfl,rfl⟩
 have hlt:d<g.n:=hd d rfl
 have hbi:=hp.own b (by simp)
 refine ⟨{ g with Imm:=fun k=>g.Imm k∨k=b },cF V d _,[],⟨rfl,rfl,rfl,rfl,rfl,fun _ h => .inl h,fun k hk => ?_⟩,fun k hk => ?_,fun k hk => ?_,⟨rfl,rfl,rfl,by rw [hsz]; exact Nat.le_refl _,fun k hk hkb=>hold k (by simpa using hkb)⟩,fun l hl=>ct hl,fun u=>dt hp.val hp.size hlt u,?_,by simp,by simp⟩
 ·rcases hk with hk | hk
  ·exact .inl hk
  ·subst hk; exact .inr (hp.own2 _ (by simp))
 ·rcases hk with hk | hk
  ·exact .inl hk
  ·exact .inr (.inl (by simp [hk]))
 ·rw [hsz]
  rcases hk with hk | hk
  ·exact hp.imm k (.inl hk)
  ·subst hk; exact hbi.1
 ·refine ⟨[],[],rfl,⟨?_,trivial⟩,rfl⟩
  show R _ _ _ (.fl .ro 1 vs) (cF V d _ (.slot d)) []
  rw [cL]
  simp only [R,ck]
  refine ⟨some ⟨b,0,none⟩,n,cap,⟨rfl,?_⟩,hlen,hone,fun hv => ?_,trivial,fun _=>⟨_,rfl,.inr rfl⟩⟩
  ·rw [hxe] at hx; cases hx; exact hnc
  ·obtain ⟨ad,e1,hr⟩:=hrd hv
   rw [hxe] at hx; cases hx
   cases e1
   refine ⟨_,rfl,fun j u hj => ?_⟩
   have h3:=hr j u hj
   rw [← h3]
   simp only [World.cell?]
   have e3:((⟨b,0,none⟩:Addr).add j).block=b:=by rw [dV]
   rw [e3,hnew,hh]
end
end Go.Abs
end
section
namespace Go.Abs
def Dv (P:Program) (t:TypeId) (x y:Value):Option Bool :=
 match P.underlying t,x,y with
 | some .bool,.bool a,.bool b=>some (a==b)
 | some (.int _),.int k a,.int k' b=>if k=k' then some (a==b) else none
 | some .string,.string a,.string b=>some (a.toList==b.toList)
 | _,_,_=>none
def ug (P:Program):List TypeId→List Value→List Value→Option Bool
 | [],[],[]=>some true
 | t::ts,x::xs,y::ys=>match Dv P t x y,ug P ts xs ys with
  | some a,some b=>some (a&&b)
  | _,_=>none
 | _,_,_=>none
section
variable {P:Program} {ty:TypeId} {pos:String} {aft:Array Edge} {gd:Option (Nat×Bool)}
theorem Bl (w:World) (d:Nat) {t:TypeId} {x y:Value} {b:Bool} (h:Dv P t x y=some b):(Op.equalIn (d+1) t x y).run P w = .ok b w:=by
 unfold Dv at h
 split at h
 ·rename_i hu; cases h; exact run_equalIn_bool' w d t _ _ hu
 ·rename_i k a k' b' hu
  split at h
  ·rename_i hk; subst hk; cases h; exact run_equalIn_int w d t _ _ _ _ hu
  ·cases h
 ·rename_i hu; cases h; exact run_equalIn_string w d t _ _ hu
 ·cases h
theorem xH {t:TypeId} {x y:Value} {b:Bool} (h:Dv P t x y=some b):∃ td,P.underlying t=some td∧ec td=false:=by
 unfold Dv at h
 split at h
 ·rename_i hu; exact ⟨_,hu,rfl⟩
 ·rename_i hu; exact ⟨_,hu,rfl⟩
 ·rename_i hu; exact ⟨_,hu,rfl⟩
 ·cases h
theorem pQ (w:World) {t:TypeId} {td:TypeDesc} (hu:P.underlying t=some td) (ha:ec td=false) {cs:Array Value} {off:Nat} {v:Value} (hv:cs[off]? = some v):(part t cs off).run P w = .ok v w:=by
 cases td <;> simp_all [part,isAgg,run_underlying hu,ec]
theorem kO (d : Nat) (xs ys : Array Value) : ∀ (fs : List Field) (k : Nat) (l m : List Value) (b : Bool) (w : World), (∀ f ∈ fs, f.name ≠ "_") → fs.map (·.offset) = (List.range' k fs.length) → xs.toList.drop k = l → ys.toList.drop k = m →
  ug P (fs.map (·.type)) l m=some b→(Op.eqFields (d+1) xs ys fs).run P w = .ok b w
 | [],k,l,m,b,w,_,_,_,_,h=>by
  cases l <;> cases m <;> simp [ug] at h
  subst h
  simp [Op.eqFields]
 | f::fs,k,l,m,b,w,hn,ho,hl,hm,h=>by
  have hf:=hn f (by simp)
  simp only [List.map_cons,List.length_cons,List.range'_succ,List.cons.injEq] at ho
  cases l with
  | nil=>simp [ug] at h
  | cons x l =>
   cases m with
   | nil=>simp [ug] at h
   | cons y m =>
    simp only [List.map_cons,ug] at h
    cases h1:Dv P f.type x y with
    | none=>simp [h1] at h
    | some a =>
     cases h2:ug P (fs.map (·.type)) l m with
     | none=>simp [h1,h2] at h
     | some c =>
      simp only [h1,h2,Option.some.injEq] at h
      subst h
      obtain ⟨td,hu,ha⟩:=xH h1
      have gx:xs[f.offset]? = some x:=by
       rw [ho.1,← Array.getElem?_toList]
       have:=congrArg (fun z=>z[0]?) hl
       simpa using this
      have gy:ys[f.offset]? = some y:=by
       rw [ho.1,← Array.getElem?_toList]
       have:=congrArg (fun z=>z[0]?) hm
       simpa using this
      have hl':xs.toList.drop (k+1)=l:=by rw [← List.tail_drop,hl]; rfl
      have hm':ys.toList.drop (k+1)=m:=by rw [← List.tail_drop,hm]; rfl
      have ih:=kO d xs ys fs (k+1) l m c w (fun f hf=>hn f (by simp [hf])) ho.2 hl' hm' h2
      simp only [Op.eqFields,ne_eq,hf,not_false_eq_true,if_true,Sem.run_bind,pQ w hu ha gx,pQ w hu ha gy,Result.andThen_ok,Bl w d h1]
      cases a
      ·simp
      ·simpa using ih
theorem oX (w:World) {op:BinOp} {t:TypeId} {x y:Operand} {a b:Array Value} (hg:P.eqGuardType P.depth t=false):(eqGuard op t x y (.agg a) (.agg b)).run P w = .ok () w:=by
 unfold eqGuard
 cases op <;> simp [hg]
def hZ:List AV→Option (List Value)
 | []=>some []
 | .v x::cs=>(hZ cs).map (x :: ·)
 | _=>none
theorem sG {g:Gh} {V:bN→Value} {w:World}:∀ {cs:List AV} {vs xs:List Value} {o:List Nat},hZ cs=some vs→Rs g V w cs xs o→xs=vs
 | [],vs,xs,o,h,hr=>by simp only [hZ,Option.some.injEq] at h; simp only [Rs] at hr; rw [hr.1,h]
 | c::cs,vs,xs,o,h,hr=>by
  cases c <;> simp only [hZ,Option.map_eq_some_iff,reduceCtorEq] at h
  obtain ⟨vs',h1,rfl⟩:=h
  simp only [Rs,R] at hr
  obtain ⟨x,xs',o1,o2,rfl,rfl,⟨rfl,_⟩,h4⟩:=hr
  rw [sG h1 h4]
theorem jj (N:List aO) (d:Nat) {t t':TypeId} {x y:Operand} {cs ds:List AV} (xs ys:List Value) (b r:Bool) (neg:Bool) (hT:P.underlying t=some (.struct (P.fieldsOf t))) (hp:P.stoodInHeld t=false) (hg:P.eqGuardType P.depth t=false)
  (hn : (P.fieldsOf t).toList.all (fun f => f.name != "_") = true) (ho : (P.fieldsOf t).toList.map (·.offset) = List.range' 0 (P.fieldsOf t).toList.length)
  (hx:rd N x = .agg cs) (hy:rd N y = .agg ds) (hc:hZ cs=some xs) (hd:hZ ds=some ys) (hv:ug P ((P.fieldsOf t).toList.map (·.type)) xs ys=some b) (hr:(if neg then !b else b)=r) :
  aY P ⟨some d,.binOp (if neg then .neq else .eql) t x y t',ty,pos,aft,gd⟩ N [] [(d,.v (.bool r))] [.slot d]:=by
 refine aY.v rfl fun g V oN ac w hpre => ?_
 obtain ⟨o1,_,h1⟩:=kI hpre.val hpre.esN x
 obtain ⟨o2,_,h2⟩:=kI hpre.val hpre.esN y
 rw [hx] at h1; rw [hy] at h2
 simp only [R] at h1 h2
 obtain ⟨xs',e1,h1⟩:=h1
 obtain ⟨ys',e2,h2⟩:=h2
 have:=sG hc h1; subst this
 have:=sG hd h2; subst this
 have he2:(Op.equal t (.agg xs'.toArray) (.agg ys'.toArray)).run P w = .ok b w:=by
  unfold Op.equal
  rw [show Op.maxDepth=9998+1+1 from rfl]
  generalize 9998=q
  rw [run_equalIn_struct w (q+1) t _ _ hT hp]
  exact kO q _ _ _ 0 _ _ b w (fun f hf=>by simpa using List.all_eq_true.1 hn f hf) ho (by simp) (by simp) hv
 subst hr
 cases neg
 ·have hgu:=oX (P:=P) w (op := .eql) (x:=x) (y:=y) (a:=xs'.toArray) (b:=ys'.toArray) hg
  have hb:binOp .eql t (.agg xs'.toArray) (.agg ys'.toArray)=(do pure (.bool (← Op.equal t (.agg xs'.toArray) (.agg ys'.toArray)))):=rfl
  simp only [execOp,e1,e2,hb,Sem.run_bind,hgu,Result.andThen_ok,he2,Bool.false_eq_true,if_false]
  simp
 ·have hgu:=oX (P:=P) w (op := .neq) (x:=x) (y:=y) (a:=xs'.toArray) (b:=ys'.toArray) hg
  have hb:binOp .neq t (.agg xs'.toArray) (.agg ys'.toArray)=(do pure (.bool (!(← Op.equal t (.agg xs'.toArray) (.agg ys'.toArray))))):=rfl
  simp only [execOp,e1,e2,hb,Sem.run_bind,hgu,Result.andThen_ok,he2,if_true]
  simp
end
end Go.Abs
end
section
namespace Go.Abs
def CJ (o0:List Nat) (Imm Im:Nat→Prop) (w:World) (res:AV) (e:Ending) (w':World):Prop :=
 ∃ x,e = .returned x∧ei o0 w w'∧∃ (Imm':Nat→Prop) (o:List Nat),(∀ b,Imm b→Imm' b)∧(∀ b,Imm' b→Imm b∨b∈o0∨(w.heap.size≤b∧b<w'.heap.size)) ∧
  R (cv w Imm' Im) V0 w' res x o∧o.Nodup∧∀ b∈o,(b∈o0∨w.heap.size≤b)∧b<w'.heap.size∧¬ Imm' b
def Dh (P:Program) (f:FuncId) (args:List AV) (res:AV):Prop :=
 ∀ (Imm Im:Nat→Prop) (w:World) (xs:List Value) (o0:List Nat),(∀ b,Imm b∨Im b→b<w.heap.size)→Rs (cv w Imm Im) V0 w args xs o0→o0.Nodup→(∀ b∈o0,b<w.heap.size∧¬ (Imm b∨Im b)) →
  Calls P f xs.toArray w (CJ o0 Imm Im w res)
def zJ (P:Program) (fn:Func) (o0:List Nat) (Imm Im:Nat→Prop) (w:World) (res:AV):Exit→Act→World→Prop:=bodyPost P fn (CJ o0 Imm Im w res)
section
variable {P:Program} {Q:Exit→Act→World→Prop} {g0:Gh} {rnd:Option Nat}
theorem uT {g:Gh} {V:bN→Value} {w:World} (hV:∀ av x o,bk av=true→R g V0 w av x o→R g V w av x o):∀ (args:List AV) (xs:List Value) (k:Nat) (o:List Nat),br args=true→args.all dY=true→Rs g V0 w args xs o→(∀ i x,xs[i]? = some x→V (.slot (k+i))=x) →
  Es g V w ((args.zipIdx k).map fun p=>(p.2,p.1)) o
 | [],xs,k,o,_,_,h,_=>by simp only [Rs] at h; exact h.2
 | av::args,xs,k,o,hc,hb,h,hv=>by
  simp only [Rs] at h
  obtain ⟨x,xs',o1,o2,rfl,rfl,h1,h2⟩:=h
  simp only [br,Bool.and_eq_true] at hc
  simp only [List.all_cons,Bool.and_eq_true] at hb
  simp only [List.zipIdx_cons,List.map_cons]
  have h0:V (.slot k)=x:=by simpa using hv 0 x rfl
  refine ⟨o1,o2,rfl,⟨?_,?_⟩,uT hV args xs' (k+1) o2 hc.2 hb.2 h2 fun i y hy => ?_⟩
  ·show R g V w av (V (.slot k)) o1
   rw [h0]; exact hV av x o1 hc.1 h1
  ·cases av <;> first | trivial | (simp [dY] at hb)
  ·have:=hv (i+1) y (by simpa using hy)
   rwa [show k+1+i=k+(i+1) by omega]
theorem CP {f:FuncId} {fn:Func} {c:Code} {args:List AV} {res:AV} (hf:P.funcs[f]? = some fn) (hb:fn.body=some c) (hk:args.length≤fn.ntmps) (hcl:br args=true) (hnb:args.all dY=true)
  (h:∀ g0:Gh,g0.n=fn.ntmps→g0.ds=[]→HT none P (zJ P fn g0.io g0.Imm g0.Im g0.w0 res) g0 c (dq args)):Dh P f args res:=by
 intro Imm Im w xs o0 himm hR hnd ho0
 have hlen:=aQ hR
 refine calls_of_wp hf hb ((wpIn_wide (n:=0)).1 ?_)
 have hg:=h ⟨fn.ntmps,w,o0,Imm,Im,[]⟩ rfl rfl ⟨fn.ntmps,w,o0,Imm,Im,[]⟩ { tmps:=xs.toArray++Array.replicate (fn.ntmps-xs.toArray.size) undef,defers:=[] } w (Gh.le_refl _)
 refine hg ⟨fun l=>match l with | .slot t=>(xs.toArray++Array.replicate (fn.ntmps-xs.toArray.size) undef).getD t undef | .cell _ _=>undef,o0,⟨fun _=>rfl,?_,rfl,List.nodup_nil,by simp,hnd,fun b hb=>⟨(ho0 b hb).1,.inr hb,(ho0 b hb).2⟩,himm,ei.refl _ _⟩,?_⟩
 ·simp; omega
 ·unfold dq
  refine uT (g:=⟨fn.ntmps,w,o0,Imm,Im,[]⟩) (fun av x o hc hr=>cl (fun _ h=>h) av x o hc (.inl fun _ h=>h) hr) args xs 0 o0 hcl hnb ?_ ?_
  ·exact cn (g:=cv w Imm Im) (g':=⟨fn.ntmps,w,o0,Imm,Im,[]⟩) (V:=V0) (V':=V0) (fun _ h=>h) args xs o0 hcl (.inl fun _ h=>h) hR
  ·intro i x hx
   have hi:=(List.getElem?_eq_some_iff.1 hx).1
   simp only [Nat.zero_add,Array.getD_eq_getD_getElem?]
   rw [Array.getElem?_append_left (by simpa using hi)]
   simp [hx]
theorem BL {fn:Func} {g0 g:Gh} {es:List aO} {avs:List AV} {a:Act} {w:World} {Imm:Nat→Prop} (hds:g0.ds=[]) (hI0:g0.Imm=Imm) (hle:g0.le g) (hret:lU P fn.results.toList es avs) (hcl:br avs=true) (hs:fR g es a w) :
  zJ P fn g0.io Imm g0.Im g0.w0 (jm avs) .ret a w∧zJ P fn g0.io Imm g0.Im g0.w0 (jm avs) .normal a w:=by
 have key:a.defers=[]∧∃ v,(results fn a.tmps).run P w = .ok v w∧CJ g0.io Imm g0.Im g0.w0 (jm avs) (.returned v) w:=by
  obtain ⟨V,o,hst,hes⟩:=hs
  obtain ⟨xs,o',o'',hR,hperm,hrun⟩:=sT hst.val hret hes
  have hnd:o'.Nodup:=(List.nodup_append.1 (hperm.nodup_iff.1 hst.nodup)).1
  have hsub:∀ b∈o',b∈o:=fun b hb=>hperm.mem_iff.2 (by simp [hb])
  refine ⟨by rw [hst.defers,hle.ds,hds]; rfl,(if h:xs.length=1 then xs.getD 0 undef else .tuple xs.toArray),?_,?_⟩
  ·have hres:results fn a.tmps=(do let vs ← fn.results.mapM (ji a.tmps); pure (if h:vs.size=1 then vs[0] else .tuple vs)):=by
    unfold results
    congr 1
   rw [hres,Array.mapM_eq_mapM_toList]
   simp only [Sem.run_bind,Sem.run_map,hrun,Result.andThen_ok]
   by_cases h:xs.length=1
   ·simp [h]
   ·simp [h]
  ·refine ⟨_,rfl,by have:=hst.chg; rw [hle.w0,hle.io] at this; exact this,g.Imm,o',by rw [← hI0]; exact hle.Imm,?_,?_,hnd,?_⟩
   ·intro b hb
    rcases hle.new b hb with h | h | h
    ·exact .inl (hI0 ▸ h)
    ·exact .inr (.inr ⟨h,hst.imm b (.inl hb)⟩)
    ·exact .inr (.inl h)
   ·have hlen:=aQ hR
    have hM:∀ b,g.Im b→(cv g0.w0 g.Imm g0.Im).Im b:=fun b hb=>by rw [hle.Im] at hb; exact hb
    have hR':=cn (g:=g) (g':=cv g0.w0 g.Imm g0.Im) (V':=V0) (fun _ h=>h) avs xs o' hcl (.inl hM) hR
    unfold jm
    split
    ·rename_i av
     simp only [Rs] at hR'
     obtain ⟨x,xs',o1,o2,rfl,rfl,h1,rfl,rfl⟩:=hR'
     simpa using h1
    ·rename_i hne
     have:xs.length≠1:=by
      intro h1
      rw [hlen] at h1
      match avs,h1 with
      | [av],_=>exact hne av rfl
     simp only [this,dite_false,R]
     exact ⟨xs,rfl,hR'⟩
   ·intro b hb
    have:=hst.own b (hsub b hb)
    rw [hle.w0,hle.io] at this
    exact ⟨this.2.1.symm,this.1,fun h=>this.2.2 (.inl h)⟩
 exact ⟨key,key⟩
theorem BB {fn:Func} {Imm:Nat→Prop} {es:List aO} {avs:List AV} {res:AV} (hds:g0.ds=[]) (hI:g0.Imm=Imm) (hret:lU P fn.results.toList es avs) (hcl:br avs=true) (hres:jm avs=res):PT (zJ P fn g0.io Imm g0.Im g0.w0 res) g0 .normal es:=by
 subst hres
 exact fun g a w hg hs=>(BL hds hI hg hret hcl hs).2
end
section
variable {P:Program} {ty:TypeId} {pos:String} {aft:Array Edge} {gd:Option (Nat×Bool)}
theorem dB (W:List bN) (av:AV):bk av=true→eX W av=true :=
 AV.rec (motive_1:=fun av=>bk av=true→eX W av=true) (motive_2:=fun cs=>br cs=true→dP W cs=true)
  (fun _=>rfl) (fun _ _=>rfl) (fun _ _ _ _=>rfl) (fun cs ih h=>by simp only [eX,bk] at *; exact ih h) (fun cs ih h=>by simp only [eX,bk] at *; exact ih h) (fun T cs ih h=>by simp only [eX,bk] at *; exact ih h)
  (fun l h=>by simp [bk] at h) (fun t i h=>by simp [bk] at h) (fun l k h=>by simp [bk] at h) (fun _ _ _=>rfl) (fun _ _ _ _ _=>rfl) (fun _ _=>rfl) (fun _ _ cs ih h=>by simp only [eX,bk] at *; exact ih h) (fun _ _ h=>by simp [bk] at h) (fun _ _ h=>by simp [bk] at h) (fun _ cs ih h=>by simp only [eX,bk] at *; exact ih h) (fun _ _=>rfl) (fun _ _ _=>rfl) (fun _ _ h=>by simp [bk] at h) (fun _ _=>rfl) (fun _=>rfl)
  (fun c cs ih1 ih2 h=>by simp only [dP,br,Bool.and_eq_true] at *; exact ⟨ih1 h.1,ih2 h.2⟩) av
theorem rv (N:List aO) (d t i:Nat) (f:FuncId) {cal x:Operand} {args:List Operand} {ats:Array TypeId} {e T':TypeId} {z:Nat} {vs:List Value} {cs cs':List AV} (avs:List AV) (res:AV) (hcal:rd N cal = .v (.func (.func f) #[] #[])) (hrun:∀ args w,(callFunc f args).run P w = .ok (.enter f args) w)
  (hx:bw N x = .same (.cell t i)) (hc:cs.getD i .any = .fl (.own e) z vs) (hic:i<cs.length) (hav:args.map (lx N)=avs) (hf:Dh P f (.fl (.own e) z vs::avs) res) (hcl:bk res=true) (hsh:fS res=true) (hnb:dY res=true)
  (hdt:d≠t) (hcs:cs.set i .any=cs') (hclr:dP [.slot d] cs'=true) :
  aY P ⟨some d,.call ⟨.value cal,(x::args).toArray,ats⟩,ty,pos,aft,gd⟩ N [(t,.box T' cs)] [(t,.box T' cs'),(d,res)] [.slot d]:=by
 subst hcs
 refine aY.core fun g V oN oT a w hd hp => ?_
 have hT':=hp.esT
 simp only [Es] at hT'
 obtain ⟨ob,o2,rfl,hER,rfl⟩:=hT'
 obtain ⟨hR0,htie⟩:=hER
 have hcv:=dD hp.val hp.esN hcal
 have hax:=ce hp.val hp.esN x
 rw [hx] at hax
 simp only [R] at hax hR0
 obtain ⟨b,cur,os,hpt,rfl,hh,hrs⟩:=hR0
 dsimp only at htie
 obtain ⟨o1,o3,hperm,hRi,hrest⟩:=gz i hrs hic
 rw [hc] at hRi
 have hlen:=aQ hrs
 have hcell:=htie b hpt i hic
 rw [cell_of_row w b i _ T' (0,0) hh] at hcell
 have hil:i<cur.length:=by omega
 have hVc:V (.cell t i)=cur.getD i undef:=by
  simp only [List.getElem?_toArray,List.getElem?_eq_getElem hil,Option.some.injEq] at hcell
  rw [← hcell]; simp [hil]
 have hxe:a.eval x=cur.getD i undef:=by rw [hax.1,hVc]
 have hin1:∀ c,c∈o1→c∈b::os:=fun c hc'=>by have:=hperm.mem_iff.2 (List.mem_append.2 (.inl hc')); simp [this]
 have hin3:∀ c,c∈o3→c∈b::os:=fun c hc'=>by have:=hperm.mem_iff.2 (List.mem_append.2 (.inr hc')); simp [this]
 have hinb:∀ c,c∈b::o3→c∈b::os:=by
  intro c hc'
  rcases List.mem_cons.1 hc' with h | h
  ·simp [h]
  ·exact hin3 c h
 have hnd2:(b::os).Nodup:=by have:=(List.nodup_append.1 hp.nodup).2.1; simpa using this
 have hnd3:(b::(o1++o3)).Nodup:=((hperm.cons b).nodup_iff).1 hnd2
 have hlts:∀ c,c∈b::os→c<w.heap.size∧¬ g.imm c:=fun c hc'=>hp.own c (by simp at hc' ⊢; exact .inr hc')
 have hoN:∀ c,c∈b::os→c ∉ oN:=fun c hc' h=>(List.nodup_append.1 hp.nodup).2.2 c h c (by simpa using hc') rfl
 have hr:(execOp a.eval ⟨some d,.call ⟨.value cal,(x::args).toArray,ats⟩,ty,pos,aft,gd⟩).run P w = .ok (.enter f ((x::args).toArray.map a.eval)) w:=by
  simp [execOp,resolve,hcv,Deferred.ofValue,invoke,hrun]
 have hargs:Rs (cv w g.Imm (fun b=>g.Im b∨b∈oN)) V0 w (.fl (.own e) z vs::avs) ((x::args).map a.eval) o1:=by
  simp only [List.map_cons,Rs]
  refine ⟨_,_,o1,[],rfl,by simp,?_,?_⟩
  ·rw [hxe]
   exact cl (g:=g) (g':=cv w g.Imm (fun b=>g.Im b∨b∈oN)) (fun _ h=>h) (.fl (.own e) z vs) _ o1 rfl (.inl fun b hb => .inl hb) hRi
  ·rw [← hav]
   exact gC (g:=g) (g':=cv w g.Imm (fun b=>g.Im b∨b∈oN)) rfl (fun b hb=>hb) hp.val hp.esN _
 have hob:∀ c∈o1,c<w.heap.size∧¬ (g.Imm c∨g.Im c∨c∈oN):=by
  intro c hc'
  have h1:=hlts c (hin1 c hc')
  refine ⟨h1.1,?_⟩
  rintro (h | h | h)
  ·exact h1.2 (.inl h)
  ·exact h1.2 (.inr h)
  ·exact hoN c (hin1 c hc') h
 have hcc:=hf g.Imm (fun b=>g.Im b∨b∈oN) w _ o1 (fun b hb=>by
  rcases hb with hb | hb | hb
  ·exact hp.imm b (.inl hb)
  ·exact hp.imm b (.inr hb)
  ·exact (hp.own b (by simp [hb])).1) hargs (by
   simp only [List.nodup_cons,List.nodup_append] at hnd3; exact hnd3.2.1) hob
 have ea:((x::args).map a.eval).toArray=(x::args).toArray.map a.eval:=by simp
 rw [ea] at hcc
 have hlt:d<g.n:=hd d rfl
 refine Yl.call hr (hcc.mono ?_)
 rintro e' w2 ⟨y,rfl,hchg,Imm',o,hI,hnew,hR,hndo,hfr⟩
 have hn13:∀ c,c∈b::o3→c ∉ o1:=by
  intro c hc' h1
  simp only [List.nodup_cons,List.mem_append,List.nodup_append] at hnd3
  rcases List.mem_cons.1 hc' with rfl | h3
  ·exact hnd3.1 (.inl h1)
  ·exact hnd3.2.2.2 c h1 c h3 rfl
 have hkeep:∀ c,c∈b::o3∨g.imm c→w2.heap[c]? = w.heap[c]? := by
  intro c hc'
  rcases hc' with hc' | hc'
  ·exact hchg.block c (hlts c (hinb c hc')).1 (hn13 c hc')
  ·exact hchg.block c (hp.imm c hc') fun h1=>(hlts c (hin1 c h1)).2 hc'
 have hdtl:∀ l,gK [.slot d] l=false→cF V d y l=V l:=fun l hl=>ct hl
 refine ⟨y,rfl,{ g with Imm:=fun b=>Imm' b },cF V d y,(b::o3)++o,⟨rfl,rfl,rfl,rfl,rfl,hI,fun c hc' => ?_⟩,fun c hc' => ?_,fun c hc' => ?_,?_,hdtl,fun u=>dt hp.val hp.size hlt u,?_,?_,?_⟩
 ·rcases hnew c hc' with h | h | h
  ·exact .inl h
  ·exact .inr (hp.own2 c (by have:=hin1 c h; simp at this ⊢; exact .inr this))
  ·exact .inr (.inl (Nat.le_trans hp.base h.1))
 ·rcases hnew c hc' with h | h | h
  ·exact .inl h
  ·exact .inr (.inl (by simpa using hin1 c h))
  ·exact .inr (.inr h.1)
 ·rcases hnew c hc' with h | h | h
  ·exact Nat.lt_of_lt_of_le (hp.imm c (.inl h)) hchg.size
  ·exact Nat.lt_of_lt_of_le (hob c h).1 hchg.size
  ·exact h.2
 ·exact hchg.mono fun c hc'=>by simpa using hin1 c hc'
 ·have hVt:cF V d y (.slot t)=V (.slot t):=by simp only [cF]; rw [if_neg fun e=>hdt e.symm]
  have hVtc:∀ j,cF V d y (.cell t j)=V (.cell t j):=fun j=>rfl
  refine ⟨b::o3,o,rfl,⟨?_,?_⟩,o,[],by simp,⟨?_,?_⟩,rfl⟩
  ·show R _ _ _ (.box T' _) (cF V d y (.slot t)) _
   rw [hVt]
   simp only [R]
   refine ⟨b,cur,o3,hpt,rfl,by rw [hkeep b (.inl (by simp))]; exact hh,?_⟩
   exact cT (g:=g) (g':={ g with Imm:=fun b=>Imm' b }) (W:=[.slot d]) hI (fun _ h=>h) hdtl _ _ _ hclr (fun c hc'=>hkeep c (hc'.imp (fun h=>by simp [h]) id)) hrest
  ·intro b' hb' j hj
   rw [hVt] at hb'
   rw [hVtc]
   rw [World.cell?_of_block (w:=w) (by
    rw [hpt] at hb'; cases hb'
    exact hkeep b (.inl (by simp)))]
   exact htie b' hb' j (by simpa using hj)
  ·show R _ _ _ res (cF V d y (.slot d)) o
   rw [cL]
   exact cl (g:=cv w Imm' (fun b=>g.Im b∨b∈oN)) (g':={ g with Imm:=fun b=>Imm' b }) (fun _ h=>h) res y o hcl (.inr hsh) hR
  ·cases res <;> first | trivial | (simp [dY] at hnb)
 ·refine List.nodup_append.2 ⟨?_,hndo,?_⟩
  ·have:(o1++(b::o3)).Nodup:=(List.perm_middle.nodup_iff).2 hnd3
   exact (List.nodup_append.1 this).2.1
  ·intro c hc' c2 hc2 e
   subst e
   rcases (hfr c hc2).1 with h | h
   ·exact hn13 c hc' h
   ·have:=(hlts c (hinb c hc')).1; omega
 ·intro c hc'
  rcases List.mem_append.1 hc' with hc' | hc'
  ·have h4:c∈b::os:=hinb c hc'
   refine ⟨.inl (by simpa using h4),Nat.lt_of_lt_of_le (hlts c h4).1 hchg.size,?_⟩
   rintro (h | h)
   ·rcases hnew c h with h5 | h5 | h5
    ·exact (hlts c h4).2 (.inl h5)
    ·exact hn13 c hc' h5
    ·have:=(hlts c h4).1; omega
   ·exact (hlts c h4).2 (.inr h)
  ·obtain ⟨h1,h2,h3⟩:=hfr c hc'
   refine ⟨h1.imp (fun h=>by simpa using hin1 c h) id,h2,?_⟩
   rintro (h | h)
   ·exact h3 h
   ·rcases h1 with h1 | h1
    ·exact (hob c h1).2 (.inr (.inl h))
    ·exact absurd (hp.imm c (.inr h)) (by omega)
end
end Go.Abs
end
