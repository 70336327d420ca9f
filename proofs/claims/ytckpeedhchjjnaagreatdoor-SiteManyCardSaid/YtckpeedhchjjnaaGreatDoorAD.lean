import Derived.Lib.ConvBytes
import Derived.ChangeKeysEq
import Derived.Test.YtckpeedhchjjnaaGreatDoorA7
section
namespace Go.Abs
def bw {S O:Type} (step:S→Option (S⊕O)):Nat→S→Option O
 | 0,_=>none
 | n+1,s=>match step s with
  | none=>none
  | some (.inr o)=>some o
  | some (.inl s')=>bw step n s'
open Classical in
noncomputable def Ai (J:Nat→Act→World→Prop) (a:Act) (w:World):Nat:=if h:∃ m,J m a w∧∀ k,J k a w→m≤k then h.choose else 0
theorem En {J:Nat→Prop} (n:Nat) (h:J n):∃ m,J m∧∀ k,J k→m≤k:=by
 induction n using Nat.strongRecOn with
 | _ n ih =>
  by_cases h':∃ k,k<n∧J k
  ·obtain ⟨k,hk,hj⟩:=h'; exact ih k hk hj
  ·exact ⟨n,h,fun k hk=>Nat.le_of_not_lt fun hlt=>h' ⟨k,hlt,hk⟩⟩
theorem zT {J:Nat→Act→World→Prop} {a:Act} {w:World} (h:∃ m,J m a w):∃ m,J m a w∧∀ k,J k a w→m≤k:=let ⟨n,hn⟩:=h; En (J:=fun m=>J m a w) n hn
theorem BC {J:Nat→Act→World→Prop} {a:Act} {w:World} (h:∃ m,J m a w):J (Ai J a w) a w:=by have:=zT h;unfold Ai; rw [dif_pos this]; exact this.choose_spec.1
theorem DR {J:Nat→Act→World→Prop} {a:Act} {w:World} {k:Nat} (h:J k a w):Ai J a w≤k:=by have:=zT ⟨k,h⟩;unfold Ai; rw [dif_pos this]; exact this.choose_spec.2 k h
section
variable {P:Program} {Q:Exit→Act→World→Prop} {g0:Gh} {rnd:Option Nat}
def HT (rnd:Option Nat) (P:Program) (Q:Exit→Act→World→Prop) (g0:Gh) (c:Code) (es:List aJ):Prop:=∀ (g:Gh) (a:Act) (w:World),g0.le g→eX g es a w→c.wpIn (FW rnd) 0 P Q a w
def PT (Q:Exit→Act→World→Prop) (g0:Gh) (e:Exit) (es:List aJ):Prop:=∀ (g:Gh) (a:Act) (w:World),g0.le g→eX g es a w→Q e a w
theorem aa {x y:Code} {es:List aJ} (h:HT rnd P (Exit.then (y.wpIn (FW rnd) 0 P Q) Q) g0 x es):HT rnd P Q g0 (.seq x y) es:=fun g a w hg hs=>wpIn_seq (h g a w hg hs)
theorem ae {y:Code} {es:List aJ} (h:HT rnd P Q g0 y es):PT (Exit.then (y.wpIn (FW rnd) 0 P Q) Q) g0 .normal es:=h
theorem ai {es:List aJ} (h:PT Q g0 .normal es):HT rnd P Q g0 .skip es:=fun g a w hg hs=>wpIn_skip (h g a w hg hs)
theorem bH {es:List aJ} (h:PT Q g0 .ret es):HT rnd P Q g0 .ret es:=fun g a w hg hs=>wpIn_ret (h g a w hg hs)
theorem aX {id:Nat} {es:List aJ} (h:PT Q g0 (.exit id) es):HT rnd P Q g0 (.exit id) es:=fun g a w hg hs=>wpIn_exit (h g a w hg hs)
theorem aG {id:Nat} {c:Code} {es:List aJ} (h:HT rnd P (Exit.inBlock id Q) g0 c es):HT rnd P Q g0 (.block id c) es:=fun g a w hg hs=>wpIn_block (h g a w hg hs)
theorem Gd {c:Operand} {x y:Code} {es:List aJ} (b:Bool) (hc:rd es c = .v (.bool b)) (ht:b=true→HT rnd P Q g0 x es) (hf:b=false→HT rnd P Q g0 y es):HT rnd P Q g0 (.cond c x y) es:=by
 intro g a w hg hs
 have he:a.eval c = .bool b:=by obtain ⟨V,o,hst,hes⟩:=hs;exact bP hst.val hes hc
 exact wpIn_cond_split he (fun h=>ht h g a w hg hs) (fun h=>hf h g a w hg hs)
def zL (P:Program) (ops:Array Oper) (o:Oper) (N T G:List aJ) (W:List bF):Prop:=∀ i:Nat,ops[i]? = some o→uT P ops i N T G W
def rT (P:Program) (ops:Array Oper) (E:Nat→aJ):List Oper→List Sp→Prop
 | [],[]=>True
 | o::os,s::r=>zL P ops o (s.N.map E) (s.T.map E) (s.G.map E) s.W∧rT P ops E os r
 | _,_=>False
theorem zY {ops:Array Oper} {E:Nat→aJ}:∀ (os:List Oper) (sps:List Sp) (k:Nat),(∀ j o,os[j]? = some o→ops[k+j]? = some o)→rT P ops E os sps→vF P ops E k sps
 | [],[],_,_,_=>trivial
 | [],_::_,_,_,h=>h.elim
 | _::_,[],_,_,h=>h.elim
 | o::os,s::r,k,hk,h=>⟨h.1 k (hk 0 o rfl),zY os r (k+1) (fun j o' hj=>by rw [show k+1+j=k+(j+1) by omega]; exact hk (j+1) o' (by simpa using hj)) h.2⟩
theorem Dd {l:List Oper} {E:Nat→aJ} {sps:List Sp} (h:rT P l.toArray E l sps):vF P l.toArray E 0 sps :=
 zY l sps 0 (fun j o hj=>by simpa using hj) h
theorem nB {ops:Array Oper} {o:Oper} {N T G:List aJ} {W:List bF} (hg:o.guard=none) (h:bh P o N T G W):zL P ops o N T G W:=fun _ ho => .plain ho hg h
theorem HK {ops:Array Oper} {o:Oper} {N T G:List aJ} {W:List bF} (j d:Nat) (want:Bool) {oj:Oper} (hg:o.guard=some (j,want)) (hj:ops[j]? = some oj) (hd:oj.dst=some d) (hN:(d,AV.v (.bool want))∈N) (h:bh P o N T G W):zL P ops o N T G W :=
 fun _ ho => .run j d want oj ho hg hj hd hN h
theorem Ch {ops:Array Oper} {o:Oper} {N:List aJ} (j d dd:Nat) (want:Bool) {oj:Oper} (hg:o.guard=some (j,want)) (hj:ops[j]? = some oj) (hd:oj.dst=some d) (hdd:o.dst=some dd) (hN:(d,AV.v (.bool (!want)))∈N):zL P ops o N [] [(dd,.v undef)] [.slot dd] :=
 fun _ ho => .skip j d dd want oj ho hg hj hd hdd hN
theorem Ev {ops:Array Oper} {o:Oper} {N:List aJ} (j d dd:Nat) (want:Bool) {oj:Oper} (hg:o.guard=some (j,want)) (hj:ops[j]? = some oj) (hd:oj.dst=some d) (hdd:o.dst=some dd) (hN:(d,AV.v undef)∈N):zL P ops o N [] [(dd,.v undef)] [.slot dd] :=
 fun _ ho => .skipU j d dd want oj ho hg hj hd hdd hN
theorem sL {id:Nat} {l:List Oper} {n:Nat} {El es es':List aJ} {init fin:List Nat} {sps:List Sp} (hm:P.follows .mixedOrders=true) (hn:g0.n=n) (hc:xJ n l El init sps fin=true) (h1:init.map (kP El)=es) (h2:fin.map (kP El)=es')
  (hst:rT P l.toArray (kP El) l sps) (hQ:PT Q g0 .normal es'):HT rnd P Q g0 (.region id l.toArray true) es:=by intro g a w hg hs;subst h1 h2;exact BZ hm (by rw [hg.n]; exact hn) hc (Dd hst) hs fun g' a' w' hle hs'=>hQ g' a' w' (hg.trans hle) hs'
theorem EV (es:List aJ):(List.range es.length).map (kP es)=es:=by
 apply List.ext_getElem?;intro i;simp only [List.getElem?_map];by_cases h:i<es.length
 ·rw [List.getElem?_range h];simp [kP,h]
 ·rw [List.getElem?_eq_none (by simpa using Nat.le_of_not_lt h),List.getElem?_eq_none (Nat.le_of_not_lt h)]; rfl
theorem eX.pick {g:Gh} {es es':List aJ} {a:Act} {w:World} (idx:List Nat) (hok:(mV idx&&idx.all fun i=>Nat.blt i es.length)=true) (he:idx.map (kP es)=es') (h:eX g es a w):eX g es' a w:=by
 rw [ah] at hok;subst he;have h':eX g ((List.range es.length).map (kP es)) a w:=by rw [EV]; exact h
 exact h'.ofSub List.nodup_range (jw hok.1) fun e hm=>List.mem_range.2 (rh.1 (aR.1 hok.2 e hm))
theorem FE {c:Code} {es es':List aJ} (idx:List Nat) (hok:(mV idx&&idx.all fun i=>Nat.blt i es.length)=true) (he:idx.map (kP es)=es') (h:HT rnd P Q g0 c es'):HT rnd P Q g0 c es :=
 fun g a w hg hs=>h g a w hg (hs.pick idx hok he)
theorem sQ {e:Exit} {es es':List aJ} (idx:List Nat) (hok:(mV idx&&idx.all fun i=>Nat.blt i es.length)=true) (he:idx.map (kP es)=es') (h:PT Q g0 e es'):PT Q g0 e es :=
 fun g a w hg hs=>h g a w hg (hs.pick idx hok he)
theorem BB {c:Code} (J:Nat→Act→World→Prop) (round:∀ n a w,J n a w→c.wpIn (FW rnd) 0 P (Exit.then (fun a' w'=>∃ m,m<n∧J m a' w') Q) a w) (n:Nat) (a:Act) (w:World) (h:J n a w):(Code.loop c).wpIn (FW rnd) 0 P Q a w:=by
 refine wpIn_loop (fun a w=>∃ m,J m a w) (fun a w=>Ai J a w) ⟨n,h⟩ ?_;intro a w hI;have hm:=BC hI;refine wpIn_mono (round _ a w hm) ?_;intro e a' w' hq
 cases e with
 | normal =>
  obtain ⟨m,hlt,hJ⟩:=hq;exact ⟨⟨m,hJ⟩,Nat.lt_of_le_of_lt (DR hJ) hlt⟩
 | exit id=>exact hq
 | goto l=>exact hq
 | ret=>exact hq
 | panic ch=>exact hq
 | outgrown=>exact hq
theorem Fp {S O:Type} {step:S→Option (S⊕O)} {c:Code} (I:S→List aJ) (fuel:Nat) (s:S) (out:O) (h:bw step fuel s=some out)
  (round:∀ (s:S) (r:S⊕O),step s=some r→(∀ o,r = .inr o→o=out)→HT rnd P (Exit.then (fun a w=>∃ s' g,r = .inl s'∧g0.le g∧eX g (I s') a w) Q) g0 c (I s)):HT rnd P Q g0 (.loop c) (I s):=by
 intro g a w hg hs;refine BB (fun n a w=>∃ s g,bw step n s=some out∧g0.le g∧eX g (I s) a w) ?_ fuel a w ⟨s,g,h,hg,hs⟩;rintro n a w ⟨s,g,hl,hg,hs⟩
 cases n with
 | zero=>simp [bw] at hl
 | succ n =>
  simp only [bw] at hl
  cases hst:step s with
  | none=>simp [hst] at hl
  | some r =>
   have hr:=round s r hst (fun o ho=>by subst ho; simpa [hst] using hl) g a w hg hs;refine wpIn_mono hr ?_;intro e a' w' hq
   cases e with
   | normal =>
    obtain ⟨s',g',rfl,hg',hs'⟩:=hq;simp only [hst] at hl;exact ⟨n,Nat.lt_succ_self n,s',g',hl,hg',hs'⟩
   | exit id=>exact hq
   | goto l=>exact hq
   | ret=>exact hq
   | panic ch=>exact hq
   | outgrown=>exact hq
theorem bf {S O:Type} {r:S⊕O} {I:S→List aJ} {es:List aJ} (s':S) (hr:r = .inl s') (he:I s'=es):PT (Exit.then (fun a w=>∃ s' g,r = .inl s'∧g0.le g∧eX g (I s') a w) Q) g0 .normal es:=by intro g a w hg hs;subst he;exact ⟨s',g,hr,hg,hs⟩
def cB (args:List AV):List aJ:=args.zipIdx.map fun p=>(p.2,p.1)
theorem yi {g:Gh} {V:bF→Value} {w:World} (hV:∀ av x o,bq av=true→R g V0 w av x o→R g V w av x o):∀ (args:List AV) (xs:List Value) (k:Nat),bj args=true→args.all dM=true→Rs g V0 w args xs []→(∀ i x,xs[i]? = some x→V (.slot (k+i))=x) →
  Es g V w ((args.zipIdx k).map fun p=>(p.2,p.1)) []
 | [],xs,k,_,_,_,_=>rfl
 | av::args,xs,k,hc,hb,h,hv=>by
  simp only [Rs] at h
  obtain ⟨x,xs',o1,o2,rfl,ho,h1,h2⟩:=h
  obtain ⟨rfl,rfl⟩:=List.append_eq_nil_iff.1 ho.symm
  simp only [bj,ah] at hc
  simp only [List.all_cons,ah] at hb
  simp only [List.zipIdx_cons,List.map_cons]
  have h0:V (.slot k)=x:=by simpa using hv 0 x rfl
  refine ⟨[],[],rfl,⟨?_,?_⟩,yi hV args xs' (k+1) hc.2 hb.2 h2 fun i y hy => ?_⟩
  ·show R g V w av (V (.slot k)) []
   rw [h0]; exact hV av x [] hc.1 h1
  ·cases av <;> first | trivial | (simp [dM] at hb)
  ·have:=hv (i+1) y (by simpa using hy)
   rwa [show k+1+i=k+(i+1) by omega]
theorem Jj {f:FuncId} {fn:Func} {c:Code} {args:List AV} {res:AV} (hf:P.funcs[f]? = some fn) (hb:fn.body=some c) (hk:args.length≤fn.ntmps) (hcl:bj args=true) (hnb:args.all dM=true)
  (h:∀ g0:Gh,g0.n=fn.ntmps→g0.io=[]→HT none P (CI P fn g0.Imm g0.Im g0.w0 res) g0 c (cB args)):bA P f args res:=by
 intro Imm Im w xs himm hR;have hlen:=aZ hR;refine callsIn_wide.1 (callsIn_of_wp_marks (n:=0) (F:=Fence.wide) hf hb trivial ?_);have hg:=h ⟨fn.ntmps,w,[],Imm,Im,[]⟩ rfl rfl ⟨fn.ntmps,w,[],Imm,Im,[]⟩ { tmps:=xs.toArray++Array.replicate (fn.ntmps-xs.toArray.size) undef,defers:=[] } w (Gh.le_refl _);refine hg ⟨fun l=>match l with | .slot t=>(xs.toArray++Array.replicate (fn.ntmps-xs.toArray.size) undef).getD t undef | .cell _ _=>undef,[],⟨fun _=>rfl,?_,rfl,List.nodup_nil,by simp,List.nodup_nil,by simp,himm,dq.refl _ _⟩,?_⟩
 ·simp; omega
 ·unfold cB;refine yi (g:=⟨fn.ntmps,w,[],Imm,Im,[]⟩) (fun av x o hc hr=>bV (fun _ h=>h) av x o hc (.inl fun _ h=>h) hr) args xs 0 hcl hnb ?_ ?_
  ·exact bJ (g:=cz w Imm Im) (g':=⟨fn.ntmps,w,[],Imm,Im,[]⟩) (V:=V0) (V':=V0) (fun _ h=>h) args xs [] hcl (.inl fun _ h=>h) hR
  ·intro i x hx;have hi:=(List.getElem?_eq_some_iff.1 hx).1;simp only [Nat.zero_add,Array.getD_eq_getD_getElem?];rw [Array.getElem?_append_left (by simpa using hi)];simp [hx]
theorem iE {fn:Func} {Imm Im:Nat→Prop} {w0:World} {es:List aJ} {avs:List AV} {res:AV} (hio:g0.io=[]) (hI:g0.Imm=Imm) (hret:ng P fn.results.toList es avs) (hcl:bj avs=true) (hres:iW avs=res) (hM:g0.Im=Im:=by rfl) (hw:g0.w0=w0:=by rfl):PT (CI P fn Imm Im w0 res) g0 .ret es:=by subst hres hM hw;exact fun g a w hg hs=>(EN hio hI hg hret hcl hs).1
theorem HH {fn:Func} {Imm Im:Nat→Prop} {w0:World} {es:List aJ} {avs:List AV} {res:AV} (hio:g0.io=[]) (hI:g0.Imm=Imm) (hret:ng P fn.results.toList es avs) (hcl:bj avs=true) (hres:iW avs=res) (hM:g0.Im=Im:=by rfl) (hw:g0.w0=w0:=by rfl):PT (CI P fn Imm Im w0 res) g0 .normal es:=by subst hres hM hw;exact fun g a w hg hs=>(EN hio hI hg hret hcl hs).2
mutual
def nH:AV→AV
 | .any => .any
 | .v x => .v x
 | .fl (.own _) z xs => .fl .ro z xs
 | .fl m z xs => .fl m z xs
 | .agg cs => .agg (uX cs)
 | .tup cs => .tup (uX cs)
 | .box T cs => .box T (uX cs)
 | .same l => .same l
 | .ptr t i => .ptr t i
 | .eref l k => .eref l k
 | .cut l k => .cut l k
 | .arr T vs => .arr T vs
 | .glob gl => .glob gl
 | .obox p T cs => .obox p T (uX cs)
 | .clo f ts => .clo f ts
 | .cloB f cs => .cloB f (uX cs)
 | .inv J => .inv J
 | .asl t i => .asl t i
 | .hid J => .hid J
 | .mkr _ xs => .fl .ro 1 xs
 | .fr (.own _) s z xs => .fr .ro s z xs
 | .fr m s z xs => .fr m s z xs
def uX:List AV→List AV
 | []=>[]
 | c::cs=>nH c::uX cs
end
theorem uz:∀ (cs:List AV),(uX cs).length=cs.length
 | []=>by simp [uX]
 | c::cs=>by simp [uX,uz cs]
theorem IM {a b c d a' c':List Nat} (h1:a.Perm (a'++b)) (h2:c.Perm (c'++d)):(a++c).Perm ((a'++c')++(b++d)):=by rw [List.perm_iff_count] at *;intro x;have:=h1 x;have:=h2 x;simp only [List.count_append] at *;omega
mutual
theorem DW {g:Gh} {V:bF→Value} {w:World}:∀ (av:AV) (x:Value) (o:List Nat),R g V w av x o→∃ o' o2:List Nat,o.Perm (o'++o2)∧∀ g':Gh,(∀ b,g.Imm b→g'.Imm b)→(∀ b,g.Im b→g'.Im b)→(∀ b∈o2,g'.Imm b)→R g' V w (nH av) x o'
 | .any,x,o,h=>⟨o,[],by simp,fun g' _ _ _=>by simp only [nH,R] at *; exact h⟩
 | .v y,x,o,h=>⟨o,[],by simp,fun g' _ _ _=>by simp only [nH,R] at *; exact h⟩
 | .fl (.own T) z xs,x,o,h=>⟨[],o,by simp,fun g' hI hM h2=>by
   simp only [nH,R,bW] at *
   obtain ⟨a,n,c,h1,h3,h4,h5,h6,h7⟩:=h
   refine ⟨a,n,c,h1,h3,h4,h5,trivial,fun hne => ?_⟩
   obtain ⟨ad,rfl,_⟩:=h5 hne
   exact ⟨ad,rfl,h2 _ (by rw [h7,h1.1]; simp [Value.ownBlock])⟩⟩
 | .fl .ro z xs,x,o,h=>⟨o,[],by simp,fun g' hI hM _=>fy (W:=[]) hI hM (fun _ _=>rfl) (.fl .ro z xs) x o (iS _) (fun _ _=>rfl) h⟩
 | .fl .shr z xs,x,o,h=>⟨o,[],by simp,fun g' hI hM _=>fy (W:=[]) hI hM (fun _ _=>rfl) (.fl .shr z xs) x o (iS _) (fun _ _=>rfl) h⟩
 | .agg cs,x,o,h=>by
  simp only [R] at h
  obtain ⟨xs,rfl,h⟩:=h
  obtain ⟨o',o2,hp,hr⟩:=tW cs xs o h
  exact ⟨o',o2,hp,fun g' hI hM h2=>by simp only [nH,R]; exact ⟨xs,rfl,hr g' hI hM h2⟩⟩
 | .tup cs,x,o,h=>by
  simp only [R] at h
  obtain ⟨xs,rfl,h⟩:=h
  obtain ⟨o',o2,hp,hr⟩:=tW cs xs o h
  exact ⟨o',o2,hp,fun g' hI hM h2=>by simp only [nH,R]; exact ⟨xs,rfl,hr g' hI hM h2⟩⟩
 | .box T cs,x,o,h=>by
  simp only [R] at h
  obtain ⟨b,xs,os,rfl,rfl,hh,h⟩:=h
  obtain ⟨o',o2,hp,hr⟩:=tW cs xs os h
  exact ⟨b::o',o2,by simpa using hp.cons b,fun g' hI hM h2=>by simp only [nH,R]; exact ⟨b,xs,o',rfl,rfl,hh,hr g' hI hM h2⟩⟩
 | .same l,x,o,h=>⟨o,[],by simp,fun g' _ _ _=>by simp only [nH,R] at *; exact h⟩
 | .ptr t i,x,o,h=>⟨o,[],by simp,fun g' _ _ _=>by simp only [nH,R] at *; exact h⟩
 | .eref l k,x,o,h=>⟨o,[],by simp,fun g' _ _ _=>by simp only [nH,R] at *; exact h⟩
 | .cut l k,x,o,h=>⟨o,[],by simp,fun g' _ _ _=>by simp only [nH,R] at *; exact h⟩
 | .arr T vs,x,o,h=>⟨o,[],by simp,fun g' _ _ _=>by simp only [nH,R] at *; exact h⟩
 | .glob gl,x,o,h=>⟨o,[],by simp,fun g' hI hM _=>by simp only [nH,R] at *; exact ⟨fun p hp=>let ⟨h1,h2⟩:=h.1 p hp; ⟨h1.imp (hI _) (hM _),h2⟩,h.2⟩⟩
 | .obox true T cs,x,o,h=>by
  simp only [R] at h
  obtain ⟨b,xs,os,rfl,rfl,hh,h⟩:=h.1 trivial
  obtain ⟨o',o2,hp,hr⟩:=tW cs xs os h
  exact ⟨b::o',o2,by simpa using hp.cons b,fun g' hI hM h2=>by simp only [nH,R]; exact ⟨fun _=>⟨b,xs,o',rfl,rfl,hh,hr g' hI hM h2⟩,fun h=>by cases h⟩⟩
 | .obox false T cs,x,o,h=>by
  simp only [R] at h
  obtain ⟨rfl,rfl⟩:=h.2 trivial
  exact ⟨[],[],by simp,fun g' _ _ _=>by simp [nH,R]⟩
 | .clo f ts,x,o,h=>⟨o,[],by simp,fun g' _ _ _=>by simp only [nH,R] at *; exact h⟩
 | .cloB f cs,x,o,h=>by
  simp only [R] at h
  obtain ⟨xs,rfl,h⟩:=h
  obtain ⟨o',o2,hp,hr⟩:=tW cs xs o h
  exact ⟨o',o2,hp,fun g' hI hM h2=>by simp only [nH,R]; exact ⟨xs,rfl,hr g' hI hM h2⟩⟩
 | .inv J,x,o,h=>⟨o,[],by simp,fun g' hI hM _=>by simp only [nH,R] at *; exact J.stab _ _ _ _ o w w hI hM (fun _ _=>rfl) h⟩
 | .asl t i,x,o,h=>⟨o,[],by simp,fun g' _ _ _=>by simp only [nH,R] at *; exact h⟩
 | .hid J,x,o,h=>⟨o,[],by simp,fun g' hI hM _=>by simp only [nH,R] at *; exact J.stab _ _ _ _ x o w w hI hM (fun _ _=>rfl) h⟩
 | .mkr E xs,x,o,h=>⟨[],o,by simp,fun g' hI hM h2=>by
   simp only [nH]
   have h':=uY (g:=g) (V:=V) (V':=V) (w:=w) (oN:=o) (g':={ g with Im:=fun b=>b∈o∨g.Im b }) (fun b hb=>hb.symm) (fun b hb=>hb) h
   simp only [R,bW] at h h' ⊢
   rcases h with ⟨rfl,rfl,rfl⟩ | ⟨b,k,n,cap,cur,fz,rfl,_,_,_,_,_,_,_,rfl⟩
   ·exact ⟨none,0,0,⟨rfl,Nat.le_refl _⟩,by simp,by simp,fun h=>absurd rfl h,trivial,fun h=>absurd rfl h⟩
   obtain ⟨a,n',c,⟨e,hnc⟩,h3,h4,h5,_,_⟩:=h'
   cases e
   exact ⟨_,_,_,⟨rfl,hnc⟩,h3,h4,h5,trivial,fun _=>⟨_,rfl,h2 _ (by simp)⟩⟩⟩
 | .fr (.own T) s z cs,x,o,h=>⟨[],o,by simp,fun g' hI hM h2=>by
   simp only [nH,R,bW] at *
   obtain ⟨vs,a,n,c,h1,h3,h4,h5,⟨h6,h7⟩,h8⟩:=h
   refine ⟨vs,a,n,c,h1,h3,h4,h5,⟨trivial,fun hne => ?_⟩,dc (fun b h=>jJ hI hM h) (fun _ _=>rfl) cs vs h8⟩
   obtain ⟨ad,rfl,_⟩:=h5 hne
   exact ⟨ad,rfl,h2 _ (by rw [h7,h1.1]; simp [Value.ownBlock])⟩⟩
 | .fr .ro s z xs,x,o,h=>⟨o,[],by simp,fun g' hI hM _=>fy (W:=[]) hI hM (fun _ _=>rfl) (.fr .ro s z xs) x o (iS _) (fun _ _=>rfl) h⟩
 | .fr .shr s z xs,x,o,h=>⟨o,[],by simp,fun g' hI hM _=>fy (W:=[]) hI hM (fun _ _=>rfl) (.fr .shr s z xs) x o (iS _) (fun _ _=>rfl) h⟩
theorem tW {g:Gh} {V:bF→Value} {w:World}:∀ (cs:List AV) (xs:List Value) (o:List Nat),Rs g V w cs xs o→∃ o' o2:List Nat,o.Perm (o'++o2)∧∀ g':Gh,(∀ b,g.Imm b→g'.Imm b)→(∀ b,g.Im b→g'.Im b)→(∀ b∈o2,g'.Imm b)→Rs g' V w (uX cs) xs o'
 | [],xs,o,h=>⟨o,[],by simp,fun g' _ _ _=>by simp only [uX,Rs] at *; exact h⟩
 | c::cs,xs,o,h=>by
  simp only [Rs] at h
  obtain ⟨x,xs',o1,o2,rfl,rfl,h1,h2⟩:=h
  obtain ⟨p1,p2,hp,hr⟩:=DW c x o1 h1
  obtain ⟨q1,q2,hq,hs⟩:=tW cs xs' o2 h2
  refine ⟨p1++q1,p2++q2,IM hp hq,fun g' hI hM h3 => ?_⟩
  simp only [uX,Rs]
  exact ⟨x,xs',p1,q1,rfl,rfl,hr g' hI hM (fun b hb=>h3 b (by simp [hb])),hs g' hI hM (fun b hb=>h3 b (by simp [hb]))⟩
end

theorem zf {g:Gh} {V:bF→Value} {w:World}:∀ (es:List aJ) (i:Nat) (o:List Nat),Es g V w es o→∃ o' o2:List Nat,o.Perm (o'++o2)∧∀ g':Gh,(∀ b,g.Imm b→g'.Imm b)→(∀ b,g.Im b→g'.Im b)→(∀ b∈o2,g'.Imm b) →
  Es g' V w (es.modify i fun e=>(e.1,nH e.2)) o'
 | [],i,o,h=>⟨o,[],by simp,fun g' _ _ _=>by simp only [List.modify_nil]; exact h⟩
 | e::es,0,o,h=>by
  obtain ⟨o1,o2,rfl,⟨h1,ht⟩,h2⟩:=h
  obtain ⟨p1,p2,hp,hr⟩:=DW e.2 _ o1 h1
  refine ⟨p1++o2,p2,?_,fun g' hI hM h3 => ?_⟩
  ·rw [List.perm_iff_count] at *
   intro x
   have:=hp x
   simp only [List.count_append] at *
   omega
  ·simp only [List.modify_zero_cons]
   refine ⟨p1,o2,rfl,⟨hr g' hI hM h3,?_⟩,dI (W:=[]) hI hM (fun _ _=>rfl) es o2 (fun e _=>by simp only [bX,fq,List.any_nil,List.all_nil,Bool.not_false,Bool.true_and,Bool.and_true,Bool.or_true]; exact iS e.2) (fun _ _=>rfl) h2⟩
   obtain ⟨t,av⟩:=e
   cases av <;> try trivial
   case fl m z xs=>cases m <;> trivial
   case fr m s z xs=>cases m <;> trivial
   case box T cs =>
    intro b hb j hj
    exact ht b hb j (by simpa [uz] using hj)
 | e::es,i+1,o,h=>by
  obtain ⟨o1,o2,rfl,h1,h2⟩:=h
  obtain ⟨p1,p2,hp,hr⟩:=zf es i o2 h2
  refine ⟨o1++p1,p2,by rw [List.append_assoc]; exact hp.append_left o1,fun g' hI hM h3 => ?_⟩
  simp only [List.modify_succ_cons]
  exact ⟨o1,p1,rfl,Cu (W:=[]) hI hM (fun _ _=>rfl) e o1 (by simp only [bX,fq,List.any_nil,List.all_nil,Bool.not_false,Bool.true_and,Bool.and_true,Bool.or_true]; exact iS e.2) (fun _ _=>rfl) h1,hr g' hI hM h3⟩
theorem CR {g:Gh} {es:List aJ} {a:Act} {w:World} (i:Nat) (_hio:g.io=[]) (h:eX g es a w):∃ g',g.le g'∧eX g' (es.modify i fun e=>(e.1,nH e.2)) a w:=by
 obtain ⟨V,o,hst,hes⟩:=h;obtain ⟨o',o2,hp,hr⟩:=zf es i o hes;have hsub:∀ b∈o2,b∈o:=fun b hb=>hp.mem_iff.2 (by simp [hb]);have hsub':∀ b∈o',b∈o:=fun b hb=>hp.mem_iff.2 (by simp [hb]);have hnd:=hp.nodup_iff.1 hst.nodup;refine ⟨{ g with Imm:=fun b=>g.Imm b∨b∈o2 },⟨rfl,rfl,rfl,rfl,rfl,fun b hb => .inl hb,fun b hb=>hb.imp id fun hb => ?_⟩,V,o',⟨hst.val,hst.size,hst.defers,hst.dnd,fun D hD => ?_,(List.nodup_append.1 hnd).1,fun b hb => ?_,fun b hb => ?_,hst.chg⟩,hr _ (fun b hb => .inl hb) (fun b hb=>hb) (fun b hb => .inr hb)⟩
 ·exact (hst.own b (hsub b hb)).2.1
 ·obtain ⟨h1,h2,h3,h4⟩:=hst.marks D hD;refine ⟨h1,fun hm=>h2 (hsub' D hm),h3,?_⟩;rintro ((h5 | h5) | h5)
  ·exact h4 (.inl h5)
  ·exact h2 (hsub D h5)
  ·exact h4 (.inr h5)
 ·have:=hst.own b (hsub' b hb);refine ⟨this.1,this.2.1,?_⟩;rintro ((h1 | h1) | h1)
  ·exact this.2.2 (.inl h1)
  ·exact (List.nodup_append.1 hnd).2.2 b hb b h1 rfl
  ·exact this.2.2 (.inr h1)
 ·rcases hb with (h1 | h1) | h1
  ·exact hst.imm b (.inl h1)
  ·exact (hst.own b (hsub b h1)).1
  ·exact hst.imm b (.inr h1)
theorem rS {c:Code} {es es':List aJ} (i:Nat) (hio:g0.io=[]) (he:(es.modify i fun e=>(e.1,nH e.2))=es') (h:HT rnd P Q g0 c es'):HT rnd P Q g0 c es:=by intro g a w hg hs;subst he;obtain ⟨g',hle,hs'⟩:=CR i (by rw [hg.io]; exact hio) hs;exact h g' a w (hg.trans hle) hs'
end
end Go.Abs
end
section
namespace Go.Abs
abbrev eG:Nat:=18446744073709551616
def aB {S A R:Type} (m:Option (S⊕A)) (k:S→Option R) (e:A→Option R):Option R :=
 match m with
 | none=>none
 | some (.inl s)=>k s
 | some (.inr a)=>e a
theorem bind_some {A R:Type} {m:Option A} {f:A→Option R} {r:R} (h:m.bind f=some r):∃ x,m=some x∧f x=some r:=by
 cases m with
 | none=>cases h
 | some x=>exact ⟨x,rfl,h⟩
theorem aj {R:Type} {c:Bool} {x y:Option R} {r:R} {G:Prop} (h:cond c x y=some r) (ht:c=true→x=some r→G) (hf:c=false→y=some r→G):G:=by
 cases c
 ·exact hf rfl h
 ·exact ht rfl h
theorem Hm {R:Type} {c:Bool} {x y:Option R} {r:R} (hc:c=true) (h:cond c x y=some r):x=some r:=by subst hc; exact h
theorem HZ {R:Type} {c:Bool} {x y:Option R} {r:R} (hc:c=false) (h:cond c x y=some r):y=some r:=by subst hc; exact h
theorem sA {S A R:Type} {m:Option (S⊕A)} {k:S→Option R} {e:A→Option R} {r:R} (h:aB m k e=some r):∃ u,m=some u∧(∀ s,u = .inl s→k s=some r)∧(∀ a,u = .inr a→e a=some r):=by
 cases m with
 | none=>cases h
 | some u =>
  refine ⟨u,rfl,fun s hs => ?_,fun a ha => ?_⟩
  ·subst hs; exact h
  ·subst ha; exact h
def vW (k:IntKind) (a b:Int):Option Int:=if 0≤b then some (k.wrap (a * 2 ^ min b.toNat k.bits)) else none
def Bp (k:IntKind) (a b:Int):Option Int:=if 0≤b then some (a.fdiv (2 ^ min b.toNat k.bits)) else none
def BG (k:IntKind) (a b:Int):Option Int:=if b=0 then none else some (k.wrap (a.tdiv b))
def xf (a b:Int):Option Int:=if b=0 then none else some (a.tmod b)
def du (i:Int) (n:Nat):Option Nat:=if 0≤i∧i<(n:Int) then some i.toNat else none
def bK {A:Type} (l:List A) (i:Nat):Option A:=l[i]?
theorem oy {k k':IntKind} {a b x:Int} (h:vW k a b=some x):pn .shl (.int k a) (.int k' b)=some (.int k x):=by
 unfold vW at h;split at h
 ·rename_i hb; cases h; simp [pn,hb]
 ·cases h
theorem uf {k k':IntKind} {a b x:Int} (h:Bp k a b=some x):pn .shr (.int k a) (.int k' b)=some (.int k x):=by
 unfold Bp at h;split at h
 ·rename_i hb; cases h; simp [pn,hb]
 ·cases h
theorem vQ {k:IntKind} {a b x:Int} (h:BG k a b=some x):pn .quo (.int k a) (.int k b)=some (.int k x):=by
 unfold BG at h;split at h
 ·cases h
 ·rename_i hb; cases h; simp [pn,hb]
theorem qI {k:IntKind} {a b x:Int} (h:xf a b=some x):pn .rem (.int k a) (.int k b)=some (.int k x):=by
 unfold xf at h;split at h
 ·cases h
 ·rename_i hb; cases h; simp [pn,hb]
theorem bL {i:Int} {n k:Nat} (h:du i n=some k):i=(k:Int)∧k<n:=by
 unfold du at h;split at h
 ·rename_i hb; cases h; omega
 ·cases h
section
variable {P:Program} {Q:Exit→Act→World→Prop} {g0:Gh} {rnd:Option Nat}
theorem aL {id:Nat} {es:List aJ} (h:PT Q g0 .normal es):PT (Exit.inBlock id Q) g0 .normal es:=h
theorem al {id:Nat} {K:Act→World→Prop} {es:List aJ} (h:PT Q g0 (.exit id) es):PT (Exit.then K Q) g0 (.exit id) es:=h
theorem aY {id:Nat} {es:List aJ} (h:PT Q g0 .normal es):PT (Exit.inBlock id Q) g0 (.exit id) es:=fun g a w hg hs=>by
 simp only [Exit.inBlock,if_true]; exact h g a w hg hs
theorem zM {id id':Nat} {es:List aJ} (hne:id'≠id) (h:PT Q g0 (.exit id') es):PT (Exit.inBlock id Q) g0 (.exit id') es:=fun g a w hg hs=>by
 simp only [Exit.inBlock]; rw [if_neg hne]; exact h g a w hg hs
theorem dS {K:Act→World→Prop} {es:List aJ} (h:PT Q g0 .ret es):PT (Exit.then K Q) g0 .ret es:=h
theorem mq {id:Nat} {es:List aJ} (h:PT Q g0 .ret es):PT (Exit.inBlock id Q) g0 .ret es:=h
def uW (av av':AV):Prop:=∀ g V w x o,R g V w av x o→R g V w av' x o
def nr (cs cs':List AV):Prop:=∀ g V w xs o,Rs g V w cs xs o→Rs g V w cs' xs o
theorem aV (av:AV):uW av av:=fun _ _ _ _ _ h=>h
theorem fj (E:TypeId) (z:Nat):uW (.v (.slice none 0 0)) (.fl (.own E) z []):=fun g V w x o h=>by
 simp only [R,bW] at *
 obtain ⟨rfl,rfl⟩:=h
 exact ⟨none,0,0,⟨rfl,aq _⟩,by simp,by simp,fun h=>absurd rfl h,World.ownsRow_nil w 0 E z,rfl⟩
theorem qb (z:Nat):uW (.v (.slice none 0 0)) (.fl .shr z []):=fun g V w x o h=>by
 simp only [R,bW] at *
 obtain ⟨rfl,rfl⟩:=h
 exact ⟨none,0,0,⟨rfl,aq _⟩,by simp,by simp,fun h=>absurd rfl h,rfl,fun h=>absurd rfl h⟩
theorem iV:nr [] []:=fun _ _ _ _ _ h=>h
theorem aH {c c':AV} {cs cs':List AV} (h:uW c c') (hs:nr cs cs'):nr (c::cs) (c'::cs'):=fun g V w xs o hr=>by
 simp only [Rs] at *
 obtain ⟨x,xs',o1,o2,h1,h2,h3,h4⟩:=hr
 exact ⟨x,xs',o1,o2,h1,h2,h _ _ _ _ _ h3,hs _ _ _ _ _ h4⟩
theorem jq (cs:List AV):nr cs cs:=fun _ _ _ _ _ h=>h
theorem zt {cs cs':List AV} (h:nr cs cs'):uW (.agg cs) (.agg cs'):=fun g V w x o hr=>by
 simp only [R] at *
 obtain ⟨xs,e,hr⟩:=hr
 exact ⟨xs,e,h _ _ _ _ _ hr⟩
theorem va {T:TypeId} {cs cs':List AV} (h:nr cs cs'):uW (.box T cs) (.box T cs'):=fun g V w x o hr=>by
 simp only [R] at *
 obtain ⟨b,xs,os,h1,h2,h3,hr⟩:=hr
 exact ⟨b,xs,os,h1,h2,h3,h _ _ _ _ _ hr⟩
inductive lW:List aJ→List aJ→Prop
 | nil:lW [] []
 | same (e:aJ) {es fs:List aJ} (h:lW es fs):lW (e::es) (e::fs)
 | sub (t:Nat) {av av':AV} {es fs:List aJ} (hs:uW av av') (hb:dM av'=true) (h:lW es fs):lW ((t,av)::es) ((t,av')::fs)
 | box (t:Nat) (T:TypeId) {cs cs':List AV} {es fs:List aJ} (hs:nr cs cs') (hl:cs'.length=cs.length) (h:lW es fs):lW ((t,.box T cs)::es) ((t,.box T cs')::fs)
theorem CB {g:Gh} {V:bF→Value} {w:World} {es fs:List aJ} (h:lW es fs):∀ {o:List Nat},Es g V w es o→Es g V w fs o:=by
 induction h with
 | nil=>intro o h; exact h
 | same e h ih=>rintro o ⟨o1,o2,rfl,h1,h2⟩; exact ⟨o1,o2,rfl,h1,ih h2⟩
 | @sub t av av' es fs hs hb h ih =>
  rintro o ⟨o1,o2,rfl,⟨h1,_⟩,h2⟩;refine ⟨o1,o2,rfl,⟨hs _ _ _ _ _ h1,?_⟩,ih h2⟩
  cases av' <;> first | trivial | (simp [dM] at hb)
 | box t T hs hl h ih =>
  rintro o ⟨o1,o2,rfl,⟨h1,ht⟩,h2⟩;exact ⟨o1,o2,rfl,⟨va hs _ _ _ _ _ h1,fun b hb i hi=>ht b hb i (by omega)⟩,ih h2⟩
theorem eN {c:Code} {es fs:List aJ} (hs:lW es fs) (h:HT rnd P Q g0 c fs):HT rnd P Q g0 c es:=fun g a w hg hsat=>h g a w hg (by
 obtain ⟨V,o,h1,h2⟩:=hsat; exact ⟨V,o,h1,CB hs h2⟩)
theorem eZ {e:Exit} {es fs:List aJ} (hs:lW es fs) (h:PT Q g0 e fs):PT Q g0 e es:=fun g a w hg hsat=>h g a w hg (by
 obtain ⟨V,o,h1,h2⟩:=hsat; exact ⟨V,o,h1,CB hs h2⟩)
theorem yR {e:Exit} {es es':List aJ} (i:Nat) (hio:g0.io=[]) (he:(es.modify i fun e=>(e.1,nH e.2))=es') (h:PT Q g0 e es'):PT Q g0 e es:=by intro g a w hg hs;subst he;obtain ⟨g',hle,hs'⟩:=CR i (by rw [hg.io]; exact hio) hs;exact h g' a w (hg.trans hle) hs'
theorem bA.args {f:FuncId} {args args':List AV} {res:AV} (h:bA P f args' res) (hs:nr args args'):bA P f args res:=fun Imm Im w xs hi hr=>h Imm Im w xs hi (hs _ _ _ _ _ hr)
end
end Go.Abs
end
section
namespace Go.Abs
section
variable {P:Program} {ty:TypeId} {pos:String} {aft:Array Edge} {gd:Option (Nat×Bool)}
theorem bh.take {o:Oper} {N:List aJ} {d t:Nat} {x:Operand} {av:AV} (ho:o.dst=some d) (hx:x = .tmp t) (hcl:eh [.slot d] av=true) (hr:∀ (a:Act) (w:World),(execOp a.eval o).run P w = .ok (.value (a.eval x)) w) :
  bh P o N [(t,av)] [(d,av)] [.slot d]:=by
 subst hx;refine bh.core fun g V oN oT a w hd hp => ?_;have hT:=hp.esT;simp only [Es] at hT;obtain ⟨o1,o2,rfl,⟨hR,ht⟩,rfl⟩:=hT;refine (Yl.val (hr a w)).mono ?_;rintro y w' ⟨rfl,rfl⟩;have hlt:d<g.n:=hd d ho;have hy:a.eval (.tmp t)=V (.slot t):=by simp only [Act.eval,hp.val]
 let V1:bF→Value:=fun l=>match l with
  | .slot u=>if u=d then V (.slot t) else V (.slot u)
  | .cell u i=>if u=d then V (.cell t i) else V (.cell u i)
 have hV1:∀ l,fq [.slot d] l=false→V1 l=V l:=by
  intro l hl;have:=jV d l hl
  cases l with
  | slot u=>simp only at this; simp [V1,this]
  | cell u i=>simp only at this; simp [V1,this]
 refine ⟨g,V1,o1,g.le_refl,fun b hb => .inl hb,fun b hb=>hp.imm b (.inl hb),dq.refl _ _,hV1,?_,?_,?_,?_⟩
 ·intro u;rw [ho,hy,eM a d u _ (by rw [hp.size]; exact hlt)];simp only [V1];split
  ·rfl
  ·exact hp.val u
 ·refine ⟨o1,[],by simp,⟨?_,?_⟩,rfl⟩
  ·show R g V1 _ av (V1 (.slot d)) o1;rw [show V1 (.slot d)=V (.slot t) by simp [V1]];exact fy (W:=[.slot d]) (fun _ h=>h) (fun _ h=>h) hV1 av _ o1 hcl (fun _ _=>rfl) hR
  ·cases av <;> try trivial
   case box T cs =>
    intro b hb i hi;dsimp only at hb ht ⊢;rw [show V1 (.slot d)=V (.slot t) by simp [V1]] at hb;rw [show V1 (.cell d i)=V (.cell t i) by simp [V1]];exact ht b hb i hi
 ·have:=(ag.1 hp.nodup).2.1; simpa using this
 ·intro b hb;have:=hp.own b (by simp [hb]);exact ⟨.inl (by simp [hb]),this.1,this.2⟩
theorem gh (N:List aJ) (d t:Nat) (av:AV) (hcl:eh [.slot d] av=true):bh P ⟨some d,.move (.tmp t),ty,pos,aft,gd⟩ N [(t,av)] [(d,av)] [.slot d] :=
 bh.take rfl rfl hcl fun a w=>by simp [execOp,pure]
theorem cF (N:List aJ) (d t:Nat) (av:AV) (hcl:eh [.slot d] av=true):bh P ⟨some d,.assign (.tmp t),ty,pos,aft,gd⟩ N [(t,av)] [(d,av)] [.slot d] :=
 bh.take rfl rfl hcl fun a w=>by simp [execOp,pure]
theorem gR (N:List aJ) (t d:Nat) {i:Nat} (cs:List AV) (av:AV) (hi:cs.getD i .any=av) (hlt:i<cs.length) (hcl:eh [.slot d] av=true) (hcs:cW [.slot d] (cs.set i .any)=true) (hdt:d≠t) (hnb:dM av=true) :
  bh P ⟨some d,.extract (.tmp t) i,ty,pos,aft,gd⟩ N [(t,.tup cs)] [(t,.tup (cs.set i .any)),(d,av)] [.slot d]:=by
 refine bh.core fun g V oN oT a w hd hp => ?_;have hT:=hp.esT;simp only [Es] at hT;obtain ⟨ob,o2,rfl,⟨hR,_⟩,rfl⟩:=hT;simp only [R] at hR;obtain ⟨xs,hx,hrs⟩:=hR;have hlen:=aZ hrs;obtain ⟨o1,o3,hperm,h1,h3⟩:=fu i hrs hlt;rw [hi] at h1;have hix:i<xs.length:=by omega
 have hrun:(execOp a.eval ⟨some d,.extract (.tmp t) i,ty,pos,aft,gd⟩).run P w = .ok (.value (xs.getD i undef)) w:=by
  have:a.eval (.tmp t) = .tuple xs.toArray:=by simp only [Act.eval,← hp.val]; exact hx
  simp [execOp,this,Instr.extract,hix]
 refine (Yl.val hrun).mono ?_;rintro y w' ⟨rfl,rfl⟩;have hlt2:d<g.n:=hd d rfl;have hnd:(o1++o3).Nodup:=hperm.nodup_iff.1 (by have:=(ag.1 hp.nodup).2.1; simpa using this);have hmem:∀ b,b∈o3++o1→b∈ob:=fun b hb=>hperm.mem_iff.2 (by simp at hb ⊢; exact hb.symm);refine ⟨g,ck V d _,o3++o1,g.le_refl,fun b hb => .inl hb,fun b hb=>hp.imm b (.inl hb),dq.refl _ _,fun l hl=>bY hl,fun u=>cU hp.val hp.size hlt2 u,?_,(List.perm_append_comm.nodup_iff).1 hnd,?_⟩
 ·have hVt:ck V d (xs.getD i undef) (.slot t)=V (.slot t):=by simp only [ck]; rw [if_neg fun e=>hdt e.symm]
  refine ⟨o3,o1,rfl,⟨?_,trivial⟩,o1,[],by simp,⟨?_,?_⟩,rfl⟩
  ·show R g _ _ (.tup _) (ck V d _ (.slot t)) o3;rw [hVt];simp only [R];exact ⟨xs,hx,cq (W:=[.slot d]) (fun _ h=>h) (fun _ h=>h) (fun l hl=>bY hl) _ _ _ hcs (fun _ _=>rfl) h3⟩
  ·show R g _ _ av (ck V d _ (.slot d)) o1;rw [cC];exact fy (W:=[.slot d]) (fun _ h=>h) (fun _ h=>h) (fun l hl=>bY hl) av _ o1 hcl (fun _ _=>rfl) h1
  ·cases av <;> first | trivial | (simp [dM] at hnb)
 ·intro b hb;have:=hp.own b (by simp [hmem b hb]);exact ⟨.inl (by simp [hmem b hb]),this.1,this.2⟩
end
section
variable {P:Program} {Q:Exit→Act→World→Prop} {g0:Gh} {rnd:Option Nat}
theorem ap {S A R:Type} {m:Option (S⊕A)} {k:S→Option R} {e:A→Option R} {r:R} {c:Code} {es:List aJ} (h:aB m k e=some r) (I:S→List aJ) (hk:∀ s,k s=some r→PT Q g0 .normal (I s))
  (hc:∀ u,m=some u→(∀ s,u = .inl s→PT Q g0 .normal (I s))→(∀ a,u = .inr a→e a=some r)→HT rnd P Q g0 c es):HT rnd P Q g0 c es:=by obtain ⟨u,hm,hl,hr⟩:=sA h;exact hc u hm (fun s hs=>hk s (hl s hs)) hr
theorem aP {S T A R:Type} {step:S→Option (S⊕(T⊕A))} {fuel:Nat} {s0:S} {k:T→Option R} {e:A→Option R} {r:R} {id:Nat} {body:Code} (h:aB (bw step fuel s0) k e=some r) (I:S→List aJ) (J:T→List aJ)
  (hk:∀ s,k s=some r→PT Q g0 .normal (J s))
  (hround:∀ u,(∀ s,u = .inl s→PT Q g0 .normal (J s))→(∀ a,u = .inr a→e a=some r)→∀ s rr,step s=some rr→(∀ o,rr = .inr o→o=u) →
   HT rnd P (Exit.then (fun a w=>∃ s' g,rr = .inl s'∧g0.le g∧eX g (I s') a w) (Exit.inBlock id Q)) g0 body (I s)):HT rnd P Q g0 (.block id (.loop body)) (I s0):=by obtain ⟨u,hm,hl,hr⟩:=sA h;exact aG (Fp I fuel s0 u hm fun s rr hst hout=>hround u (fun s hs=>hk s (hl s hs)) hr s rr hst hout)
end
end Go.Abs
end
section
namespace Go.Abs
def cA {A:Type} (by_:Nat) (l m:List A):Option (List A):=if (l.length+m.length) * by_≤140737488355328∧l.length+m.length≤140737488355328 then some (l++m) else none
def Fc {A:Type} (by_:Nat) (n:Int) (z:A):Option (List A):=if 0≤n∧by_ * n.toNat≤140737488355328 then some (List.replicate n.toNat z) else none
def lf {A:Type} (l:List A) (lo hi:Int):Option (List A):=if 0≤lo∧lo≤hi∧hi≤(l.length:Int) then some ((l.drop lo.toNat).take (hi.toNat-lo.toNat)) else none
def ry (s:ME) (lo hi:Int):Option ME:=if 0≤lo∧lo≤hi∧hi≤(s.size:Int) then some (s.extract lo.toNat hi.toNat) else none
def lE (s t:ME):Option ME:=if s.size+t.size≤9223372036854775807 then some (s++t) else none
def qx (s:ME) (i:Int):Option Int:=if 0≤i then (s.data.toList[i.toNat]?).map fun b=>(b.toNat:Int) else none
def wI (l:List Int):ME:=⟨(l.map fun n=>UInt8.ofNat n.toNat).toArray⟩
theorem eF {s t x:ME} (h:lE s t=some x):pn .add (.string s) (.string t)=some (.string x):=by
 unfold lE at h;split at h
 ·rename_i hb; cases h; simp [pn,hb]
 ·cases h
theorem dV {A:Type} {b:Nat} {l m q:List A} (h:cA b l m=some q):l++m=q:=by
 unfold cA at h;split at h
 ·exact ay h
 ·cases h
theorem lq {A:Type} {b:Nat} {m q:List A} (h:cA b [] m=some q):m=q:=by simpa using dV h
theorem Ed {A:Type} {enc:A→List Value} {l m q:List A} (h:l++m=q):(l.map enc).flatten++(m.map enc).flatten=(q.map enc).flatten:=by subst h; simp
theorem Em {g:Gh} {V:bF→Value} {w:World} {N:List aJ} {o:List Nat} {a:Act} {ys:List Value} (hv:∀ t,V (.slot t)=a.tmps.getD t undef) (h:Es g V w N o) {x:Operand} (hx:rd N x = .agg (ys.map .v)):a.eval x = .agg ys.toArray:=by
 obtain ⟨o',_,hr⟩:=kt hv h x;rw [hx] at hr;simp only [R] at hr;obtain ⟨xs,e,hr⟩:=hr
 have:∀ (ys xs:List Value) (o:List Nat),Rs g V w (ys.map .v) xs o→xs=ys:=by
  intro ys
  induction ys with
  | nil=>intro xs o h; simp only [List.map_nil,Rs] at h; exact h.1
  | cons y ys ih =>
   intro xs o h;simp only [List.map_cons,Rs,R] at h;obtain ⟨x,xs',o1,o2,rfl,rfl,⟨rfl,_⟩,h2⟩:=h;rw [ih _ _ h2]
 rw [e,this _ _ _ hr]
section
variable {A:Type} {f:A→Value}
theorem eK (l:List A):(l.map f).length=l.length * 1:=by simp
theorem lK {l:List A} {i:Nat} (h:i<l.length):i * 1+1≤(l.map f).length:=by simp; omega
theorem Cs {l:List A} {i:Nat} {x:A} (h:bK l i=some x):(l.map f)[i * 1]? = some (f x):=by unfold bK at h; simp [h]
theorem map_set {l:List A} {i:Nat} (x:A) (h:i<l.length):(l.map f).take (i * 1)++([f x]++(l.map f).drop (i * 1+1))=(l.set i x).map f:=by
 rw [Nat.mul_one];apply List.ext_getElem?;intro j;have:=sy (l.map f) [f x] i j (by simp; omega);simp only [List.length_cons,List.length_nil,Nat.zero_add] at this;rw [this];simp only [List.getElem?_map,List.getElem?_set];by_cases h1:j<i
 ·rw [if_pos h1,if_neg (by omega)]
 ·rw [if_neg h1];by_cases h2:j<i+1
  ·have:j=i:=by omega
   subst this;simp [h]
  ·rw [if_neg h2,if_neg (by omega)]
variable {z:Nat}
theorem lp {enc:A→List Value} (he:∀ x,(enc x).length=z) (l:List A):((l.map enc).flatten).length=l.length * z:=by
 induction l with
 | nil=>simp
 | cons x l ih=>simp [he,ih,Nat.add_mul]; omega
theorem FK {enc:A→List Value} (he:∀ x,(enc x).length=z) {l:List A} {i:Nat} (h:i<l.length):i * z+z≤((l.map enc).flatten).length:=by rw [lp he];have:(i+1) * z≤l.length * z:=Nat.mul_le_mul_right _ h;rw [Nat.add_mul] at this; omega
theorem xy {enc:A→List Value} (he:∀ x,(enc x).length=z):∀ (l:List A) (i:Nat),((l.map enc).flatten).drop (i * z)=((l.drop i).map enc).flatten
 | [],i=>by simp
 | x::l,0=>by simp
 | x::l,i+1=>by
  simp only [List.map_cons,List.flatten_cons,List.drop_succ_cons]
  rw [← xy he l i,Nat.add_mul,Nat.one_mul,Nat.add_comm,← List.drop_drop,← he x]
  simp
theorem lZ {enc:A→List Value} (he:∀ x,(enc x).length=z) {l:List A} {i:Nat} {x:A} (h:bK l i=some x):(((l.map enc).flatten).drop (i * z)).take z=enc x:=by rw [xy he];unfold bK at h;have hl:=(List.getElem?_eq_some_iff.1 h);rw [List.drop_eq_getElem_cons hl.1,hl.2];simp [← he x]
end
section
variable {P:Program} {ty:TypeId} {pos:String} {aft:Array Edge} {gd:Option (Nat×Bool)}
theorem GE (N:List aJ) (d:Nat) {T e:TypeId} (x:Nat) (y:Operand) {kd:IntKind} {m:Md} {xs:List Value} (n:Int) (i z:Nat) (l:bF) (hT:P.underlying T=some (.slice e)) (hz:(P.info? e).map (·.size)=some z) (h0:0<z)
  (hx:rd N (.tmp x) = .fl m z xs) (hl:rH N (.tmp x)=l) (hy:rd N y = .v (.int kd n)) (hn:n=(i:Int)) (hi:i * z+z≤xs.length) (hd:fq [.slot d] l=false) :
  bh P ⟨some d,.indexAddr T (.tmp x) y,ty,pos,aft,gd⟩ N [] [(d,.eref l (i * z))] [.slot d] :=
 zh N d x y i z l hT hz hx hl (by rw [hy,hn]) hi h0 hd
theorem nO {A:Type} (N:List aJ) (d:Nat) {T e t':TypeId} (x y:Operand) {z by_:Nat} {my:Md} {ys zs:List Value} {l m q:List A} (hE:dO P T e z by_) (hx:rd N x = .v (.slice none 0 0)) (hy:rd N y = .fl my z ys) (hm:ys.length=m.length * z)
  (hq:cA by_ l m=some q) (hz:ys=zs) :
  bh P ⟨some d,.call ⟨.builtin .append,#[x,y],#[T,T]⟩,t',pos,aft,gd⟩ N [] [(d,.fl (.own e) z zs)] [.slot d]:=by
 subst hz;unfold cA at hq;split at hq
 ·rename_i h;exact xp N d x y m.length hE hx hy hm (Nat.le_trans (Nat.mul_le_mul_right _ (by omega)) h.1) (by simp only [maxLen]; omega)
 ·cases hq
theorem DQ {A:Type} (N:List aJ) (d t:Nat) {T e t':TypeId} (x y:Operand) {z by_:Nat} {my:Md} {xs ys zs:List Value} {l m q:List A} (hE:dO P T e z by_) (hx:bm (N++[(t,.fl (.own e) z xs)]) x = .same (.slot t)) (hy:rd N y = .fl my z ys)
  (hn:xs.length=l.length * z) (hm:ys.length=m.length * z) (hq:cA by_ l m=some q) (hz:xs++ys=zs) :
  bh P ⟨some d,.call ⟨.builtin .append,#[x,y],#[T,T]⟩,t',pos,aft,gd⟩ N [(t,.fl (.own e) z xs)] [(t,.any),(d,.fl (.own e) z zs)] [.slot d]:=by
 subst hz;unfold cA at hq;split at hq
 ·rename_i h;exact Dw N d t x y l.length m.length hE hx hy hn hm h.1 (by simp only [maxLen]; omega)
 ·cases hq
theorem iw {A:Type} (N:List aJ) (d t i:Nat) {T e t' T':TypeId} (x y:Operand) {z by_:Nat} {my:Md} {cs cs':List AV} {xs ys zs:List Value} {l m q:List A} (hE:dO P T e z by_) (hx:bm N x = .same (.cell t i)) (hc:cs.getD i .any = .fl (.own e) z xs) (hic:i<cs.length)
  (hy:rd N y = .fl my z ys) (hn:xs.length=l.length * z) (hm:ys.length=m.length * z) (hq:cA by_ l m=some q) (hz:xs++ys=zs) (hdt:d≠t) (hcs:cs.set i .any=cs') (hcl:cW [.slot d] cs'=true) :
  bh P ⟨some d,.call ⟨.builtin .append,#[x,y],#[T,T]⟩,t',pos,aft,gd⟩ N [(t,.box T' cs)] [(t,.box T' cs'),(d,.fl (.own e) z zs)] [.slot d]:=by
 subst hz hcs;unfold cA at hq;split at hq
 ·rename_i h;exact wz N d t i x y l.length m.length hE hx hc hic hy hn hm h.1 (by simp only [maxLen]; omega) hdt hcl
 ·cases hq
theorem vJ {A:Type} {f:A→Value} (N:List aJ) (d:Nat) {T e:TypeId} (x y:Operand) {kl kc:IntKind} {n:Int} {zv:A} {q:List A} {by_:Nat} (hE:dO P T e 1 by_) (h0:0<by_) (hz:(P.info? e).bind (·.zero)=some (f zv)) (h1:(f zv).oneCell'=true)
  (hx:rd N x = .v (.int kl n)) (hy:rd N y = .v (.int kc n)) (hq:Fc by_ n zv=some q) :
  bh P ⟨some d,.makeSlice T x y,ty,pos,aft,gd⟩ N [] [(d,.fl (.own e) 1 (q.map f))] [.slot d]:=by
 obtain ⟨i,z',hT,hi,hz',hs,hzc,_,rfl⟩:=hE.ex;unfold Fc at hq;split at hq
 ·rename_i h
  cases hq
  have hn:n=((n.toNat:Nat):Int):=by omega
  rw [hn] at hx hy;have:=yB (P:=P) (ty:=ty) (pos:=pos) (aft:=aft) (gd:=gd) N d x y n.toNat (f zv) hT hi (by simpa [hi] using hz) hs h1 hx hy h0 h.2;simpa using this
 ·cases hq
theorem iR {A:Type} {f:A→Value} (N:List aJ) (d:Nat) {T e:TypeId} {x:Operand} {lo hi:Option Operand} {m:Md} (l:List A) (a b:Int) (q:List A) (hT:P.underlying T=some (.slice e)) (hz:(P.info? e).map (·.size)=some 1)
  (hx:rd N x = .fl m 1 (l.map f)) (hm:ub m=true)
  (hl:match lo with | some y=>∃ k,rd N y = .v (.int k a) | none=>a=0) (hh:match hi with | some y=>∃ k,rd N y = .v (.int k b) | none=>b=(l.length:Int)) (hq:lf l a b=some q) :
  bh P ⟨some d,.slice T x lo hi none,ty,pos,aft,gd⟩ N [] [(d,.fl m 1 (q.map f))] [.slot d]:=by
 unfold lf at hq;split at hq
 ·rename_i h
  cases hq
  have ha:a=((a.toNat:Nat):Int):=by omega
  have hb:b=((b.toNat:Nat):Int):=by omega
  refine Ep N d a.toNat b.toNat _ hT hz (by omega) hx hm ?_ ?_ (by omega) (by simp; omega) ?_
  ·cases lo with
   | none=>simp only at hl ⊢; omega
   | some y=>obtain ⟨k,hk⟩:=hl; exact ⟨k,by rw [hk,← ha]⟩
  ·cases hi with
   | none=>simp only at hh ⊢; simp; omega
   | some y=>obtain ⟨k,hk⟩:=hh; exact ⟨k,by rw [hk,← hb]⟩
  ·simp [List.map_take,List.map_drop]
 ·cases hq
theorem dH (N:List aJ) (d:Nat) {t:TypeId} {x:Operand} {lo hi:Option Operand} (s:ME) (a b:Int) (q:ME) (hT:P.underlying t=some .string) (hx:rd N x = .v (.string s))
  (hl:match lo with | some y=>∃ k,rd N y = .v (.int k a) | none=>a=0) (hh:match hi with | some y=>∃ k,rd N y = .v (.int k b) | none=>b=(s.size:Int)) (hq:ry s a b=some q) :
  bh P ⟨some d,.slice t x lo hi none,ty,pos,aft,gd⟩ N [] [(d,.v (.string q))] [.slot d]:=by
 unfold ry at hq;split at hq
 ·rename_i h
  cases hq
  have ha:a=((a.toNat:Nat):Int):=by omega
  have hb:b=((b.toNat:Nat):Int):=by omega
  refine yj N d s a.toNat b.toNat hT hx ?_ ?_ (by omega) (by omega)
  ·cases lo with
   | none=>simp only at hl ⊢; omega
   | some y=>obtain ⟨k,hk⟩:=hl; exact ⟨k,by rw [hk,← ha]⟩
  ·cases hi with
   | none=>simp only at hh ⊢; omega
   | some y=>obtain ⟨k,hk⟩:=hh; exact ⟨k,by rw [hk,← hb]⟩
 ·cases hq
theorem Ip (N:List aJ) (d:Nat) {t:TypeId} {x y:Operand} {k:IntKind} (s:ME) (i:Int) (q:Int) (hT:P.underlying t=some .string) (hx:rd N x = .v (.string s)) (hy:rd N y = .v (.int k i)) (hq:qx s i=some q) :
  bh P ⟨some d,.index t x y,ty,pos,aft,gd⟩ N [] [(d,.v (.int .u8 q))] [.slot d]:=by
 unfold qx at hq;split at hq
 ·rename_i h;have hi:i=((i.toNat:Nat):Int):=by omega
  cases hb:s.data.toList[i.toNat]? with
  | none=>rw [hb] at hq; cases hq
  | some b =>
   rw [hb] at hq;simp only [Option.map_some,Option.some.injEq] at hq;subst hq;exact zw N d s i.toNat b hT hx (by rw [hy,← hi]) hb
 ·cases hq
theorem bO (N:List aJ) (d t:Nat) {T T':TypeId} {td:TypeDesc} (x:Operand) {cs:List AV} (hT:P.underlying T=some td) (ha:dn td=true) (hs:(P.info? T).map (·.size)=some cs.length) (hx:bm (N++[(t,.box T' cs)]) x = .ptr t 0) (hcl:cW [.slot d] cs=true) :
  bh P ⟨some d,.load T x,ty,pos,aft,gd⟩ N [(t,.box T' cs)] [(d,.agg cs)] [.slot d]:=by
 refine bh.core fun g V oN oT a w hd hp => ?_;have hT':=hp.esT;simp only [Es] at hT';obtain ⟨ob,o2,rfl,⟨hR,_⟩,rfl⟩:=hT';have hax:=bE hp.val (aT.2 ⟨oN,_,rfl,hp.esN,hp.esT⟩) x;rw [hx] at hax;simp only [R] at hax hR;obtain ⟨b,xs,os,h1,rfl,hh,hrs⟩:=hR;obtain ⟨b2,h2,h3,_⟩:=hax;rw [h1] at h2; cases h2;have hload:=gj (P:=P) (w:=w) (a:=⟨b,0,none⟩) (xs:=xs) hT ha hs (aZ hrs) (fun j v hj=>by rw [cw,cell_of_row w b _ _ T' (0,0) hh]; simpa using hj);have hrun:(execOp a.eval ⟨some d,.load T x,ty,pos,aft,gd⟩).run P w = .ok (.value (.agg xs.toArray)) w:=by simp [execOp,Instr.loadAt,h3,Instr.sureAddr,hload]
 refine (Yl.val hrun).mono ?_;rintro y w' ⟨rfl,rfl⟩;have hlt:d<g.n:=hd d rfl;refine ⟨g,ck V d _,os,g.le_refl,fun b hb => .inl hb,fun b hb=>hp.imm b (.inl hb),dq.refl _ _,fun l hl=>bY hl,fun u=>cU hp.val hp.size hlt u,?_,?_,?_⟩
 ·refine ⟨os,[],by simp,⟨?_,trivial⟩,rfl⟩;show R g _ _ (.agg cs) (ck V d _ (.slot d)) os;rw [cC];simp only [R];exact ⟨xs,rfl,cq (W:=[.slot d]) (fun _ h=>h) (fun _ h=>h) (fun l hl=>bY hl) _ _ _ hcl (fun _ _=>rfl) hrs⟩
 ·have:=(List.nodup_append.1 hp.nodup).2.1;simp at this; exact this.2
 ·intro c hc;have:=hp.own c (by simp [hc]);exact ⟨.inl (by simp [hc]),this.1,this.2⟩
end
theorem cc {o:Option (Array Value)} {a:Array Value} {l:List Value} (h:o=some a) (h2:a.toList=l):o=some l.toArray:=by subst h; subst h2; rw [Array.toArray_toList]
theorem CV {g:Gh} {V:bF→Value} {w:World}:∀ {cs:List AV} {xs:List Value} {o o1:List Nat} (i:Nat),Rs g V w cs xs o→i<cs.length →
  R g V w (cs.getD i .any) (xs.getD i undef) o1→Rs g V w ((List.replicate cs.length AV.any).set i (cs.getD i .any)) xs o1
 | [],_,_,_,i,_,hi,_=>by simp at hi
 | c::cs,xs,o,o1,i,h,hi,h1=>by
  simp only [Rs] at h
  obtain ⟨x,xs',p1,p2,rfl,rfl,hc,hr⟩:=h
  have hany:∀ {ds:List AV} {ys:List Value} {q:List Nat},Rs g V w ds ys q→Rs g V w (List.replicate ds.length AV.any) ys []:=by
   intro ds
   induction ds with
   | nil=>intro ys q h; simp only [Rs] at h; simp [Rs,h.1]
   | cons d ds ih =>
    intro ys q h
    simp only [Rs] at h
    obtain ⟨y,ys',q1,q2,rfl,rfl,_,hr⟩:=h
    simp only [List.length_cons,List.replicate_succ,Rs]
    exact ⟨y,ys',[],[],rfl,rfl,by simp [R],ih hr⟩
  cases i with
  | zero =>
   simp only [List.length_cons,List.replicate_succ,List.set_cons_zero,List.getD_cons_zero,Rs] at h1 ⊢
   exact ⟨x,xs',o1,[],rfl,by simp,h1,hany hr⟩
  | succ i =>
   simp only [List.length_cons,List.replicate_succ,List.set_cons_succ,List.getD_cons_succ,Rs] at h1 ⊢
   exact ⟨x,xs',[],o1,rfl,by simp,by simp [R],CV i hr (by simpa using hi) h1⟩
theorem bh.split {P:Program} {o:Oper} {N T A B:List aJ} {W:List bF} (t i:Nat) (cs c1 c2:List AV) (h:bh P o N T (A++(t,.tup cs)::B) W) (hi:i<cs.length)
  (e1:(List.replicate cs.length AV.any).set i (cs.getD i .any)=c1) (e2:cs.set i .any=c2):bh P o N T (A++(t,.tup c1)::(t,.tup c2)::B) W:=by
 intro g F a w K Q hd hs hc hk;refine h g F a w K Q hd hs hc fun g' a' w' hle hs'=>hk g' a' w' hle ?_
 have hp:(N++((A++(t,AV.tup cs)::B)++F)).Perm ((t,AV.tup cs)::(N++((A++B)++F))):=by simp only [List.append_assoc,List.cons_append];rw [← List.append_assoc N A,← List.append_assoc N A];exact List.perm_middle
 have hq:((t,AV.tup c1)::(t,AV.tup c2)::(N++((A++B)++F))).Perm (N++((A++(t,AV.tup c1)::(t,AV.tup c2)::B)++F)):=by simp only [List.append_assoc,List.cons_append];rw [← List.append_assoc N A,← List.append_assoc N A];refine (List.Perm.trans ?_ List.perm_middle.symm);exact List.Perm.cons _ List.perm_middle.symm
 refine eX.perm ?_ hq;obtain ⟨V,ow,hst,hes⟩:=hs'.perm hp;simp only [Es] at hes;obtain ⟨o1,o2,rfl,⟨hR,_⟩,hrest⟩:=hes;simp only [R] at hR;obtain ⟨xs,hx,hrs⟩:=hR;obtain ⟨p1,p2,hpm,h1,h2⟩:=fu i hrs hi;subst e1 e2;have hpp:(o1++o2).Perm (p1++(p2++o2)):=by rw [← List.append_assoc]; exact hpm.append_right o2
 refine ⟨V,p1++(p2++o2),⟨hst.val,hst.size,hst.defers,hst.dnd,fun D hD=>let ⟨h1,h2,h3⟩:=hst.marks D hD; ⟨h1,fun hm=>h2 (hpp.mem_iff.2 hm),h3⟩,hpp.nodup_iff.1 hst.nodup,fun b hb=>hst.own b (hpp.mem_iff.2 hb),hst.imm,hst.chg⟩,?_⟩;refine ⟨p1,p2++o2,rfl,⟨?_,trivial⟩,p2,o2,rfl,⟨?_,trivial⟩,hrest⟩
 ·simp only [R]; exact ⟨xs,hx,CV i hrs hi h1⟩
 ·simp only [R]; exact ⟨xs,hx,h2⟩
end Go.Abs
end
section
namespace Go.Abs
section
variable {g:Gh} {V:bF→Value} {w:World}
theorem Aj {N:List aJ} {oN:List Nat} (h:Es g V w N oN) {t:Nat} {T:TypeId} {vs:List Value} (hl:look N t = .arr T vs) :
  ∃ b:Nat,V (.slot t) = .pointer (some ⟨b,0,none⟩)∧w.heap[b]? = some (.cells vs.toArray T (0,0))∧b∈oN:=by obtain ⟨o',hs,hr,_⟩:=cE h t;dsimp only at hr;rw [hl] at hr;simp only [R] at hr;obtain ⟨b,hx,rfl,hh⟩:=hr;exact ⟨b,hx,hh,hs _ (by simp)⟩
end
section
variable {P:Program} {ty:TypeId} {pos:String} {aft:Array Edge} {gd:Option (Nat×Bool)}
theorem cP (d:Nat) {T:TypeId} {vs:List Value} (hz:((P.info? T).bind (·.zero)).map (·.cells.toList)=some vs) :
  bh P ⟨some d,.alloc T,ty,pos,aft,gd⟩ [] [] [(d,.arr T vs)] [.slot d]:=by
 cases hz':(P.info? T).bind (·.zero) with
 | none=>simp [hz'] at hz
 | some z =>
  simp [hz'] at hz;subst hz;refine bh.fresh rfl rfl fun g V oN a w hp => ?_
  have hr:(execOp a.eval ⟨some d,.alloc T,ty,pos,aft,gd⟩).run P w = .ok (.value (.pointer (some ⟨w.heap.size,0,none⟩))) (w.alloc (.cells z.cells T)):=by simp [execOp,Instr.alloc,Sem.run_bind,jg hz',newVar,newRow,newObj];rfl
  refine (Yl.val hr).mono ?_;rintro x w' ⟨rfl,rfl⟩;refine ⟨dq.alloc _ _ _,g,[w.heap.size],g.le_refl,fun b hb => .inl hb,?_,by simp,?_⟩
  ·simp only [R];exact ⟨w.heap.size,rfl,rfl,by simpa using heap_alloc_new w (.cells z.cells T)⟩
  ·intro b hb;simp at hb; subst hb;exact ⟨Nat.le_refl _,by simp,fun hi=>Nat.lt_irrefl _ (hp.imm _ (.inl hi))⟩
theorem sl (N:List aJ) (d:Nat) {T:TypeId} (x:Operand) {vs:List Value} (h:rd N x = .v (.agg vs.toArray)) :
  bh P ⟨some d,.box T x,ty,pos,aft,gd⟩ N [] [(d,.arr T vs)] [.slot d]:=by
 refine bh.fresh rfl rfl fun g V oN a w hp => ?_;have hx:=bP hp.val hp.esN h
 have hr:(execOp a.eval ⟨some d,.box T x,ty,pos,aft,gd⟩).run P w = .ok (.value (.pointer (some ⟨w.heap.size,0,none⟩))) (w.alloc (.cells vs.toArray T)):=by simp [execOp,Instr.box,newVar,newRow,newObj,hx,Value.cells];rfl
 refine (Yl.val hr).mono ?_;rintro y w' ⟨rfl,rfl⟩;refine ⟨dq.alloc _ _ _,g,[w.heap.size],g.le_refl,fun b hb => .inl hb,?_,by simp,?_⟩
 ·simp only [R];exact ⟨w.heap.size,rfl,rfl,by simpa using heap_alloc_new w (.cells vs.toArray T)⟩
 ·intro b hb;simp at hb; subst hb;exact ⟨Nat.le_refl _,by simp,fun hi=>Nat.lt_irrefl _ (hp.imm _ (.inl hi))⟩
theorem fV (N:List aJ) (d:Nat) {T:TypeId} {td:TypeDesc} (x:Operand) {T':TypeId} {vs:List Value} (t off:Nat) (v:Value) (hT:P.underlying T=some td) (ha:dn td=false)
  (hx:bm N x = .ptr t off) (hl:look N t = .arr T' vs) (hv:vs[off]? = some v) :
  bh P ⟨some d,.load T x,ty,pos,aft,gd⟩ N [] [(d,.v v)] [.slot d]:=by
 refine bh.value rfl rfl rfl fun g V oN a w hp => ?_;have hR:=bE hp.val hp.esN x;rw [hx] at hR;simp only [R] at hR;obtain ⟨b,h1,h2,_⟩:=hR;obtain ⟨b',h3,hh,_⟩:=Aj hp.esN hl;rw [h1] at h3; cases h3;refine ⟨v,?_,by simp [R]⟩;have hc:w.cell? ⟨b,off,none⟩=some v:=by rw [cell_of_row w b off _ T' (0,0) hh]; simpa using hv
 simp [execOp,Instr.loadAt,h2,Instr.sureAddr,jr hT ha hc]
theorem cm (N:List aJ) (d:Nat) {T:TypeId} {td:TypeDesc} (x:Operand) {T':TypeId} {vs:List Value} (t:Nat) (hT:P.underlying T=some td) (ha:dn td=true) (hs:(P.info? T).map (·.size)=some vs.length)
  (hx:bm N x = .ptr t 0) (hl:look N t = .arr T' vs) :
  bh P ⟨some d,.load T x,ty,pos,aft,gd⟩ N [] [(d,.v (.agg vs.toArray))] [.slot d]:=by
 refine bh.value rfl rfl rfl fun g V oN a w hp => ?_;have hR:=bE hp.val hp.esN x;rw [hx] at hR;simp only [R] at hR;obtain ⟨b,h1,h2,_⟩:=hR;obtain ⟨b',h3,hh,_⟩:=Aj hp.esN hl;rw [h1] at h3; cases h3;refine ⟨.agg vs.toArray,?_,by simp [R]⟩
 have hload:=gj (P:=P) (w:=w) (a:=⟨b,0,none⟩) (xs:=vs) hT ha hs rfl (fun j v hj=>by
  rw [cw,cell_of_row w b _ _ T' (0,0) hh]; simpa using hj)
 simp [execOp,Instr.loadAt,h2,Instr.sureAddr,hload]
theorem pS (N:List aJ) {T:TypeId} (ax vx:Operand) {T':TypeId} {vs us:List Value} (t off s:Nat) (y:Value) (hs:(P.info? T).map (·.size)=some s)
  (hx:bm (N++[(t,.arr T' vs)]) ax = .ptr t off) (hv:rd N vx = .v y) (hsz:y.cells.size=s) (h1:∀ u∈y.cells.toList,u.oneCell'=true) (hfit:off+s≤vs.length)
  (hus:vs.take off++(y.cells.toList++vs.drop (off+s))=us) :
  bh P ⟨none,.store T ax vx,ty,pos,aft,gd⟩ N [(t,.arr T' vs)] [(t,.arr T' us)] []:=by
 subst hus;refine bh.core fun g V oN oT a w hd hp => ?_;have hB:=hp.esT;have hax:=bE hp.val (aT.2 ⟨oN,_,rfl,hp.esN,hB⟩) ax;simp only [Es] at hB;obtain ⟨ob,o2,rfl,⟨hR1,_⟩,rfl⟩:=hB;simp only [R] at hR1;obtain ⟨b,h3,rfl,hh⟩:=hR1;rw [hx] at hax;simp only [R] at hax;obtain ⟨b2,h4,h5,_⟩:=hax;have h3':V (.slot t) = .pointer (some ⟨b,0,none⟩):=h3;rw [h3'] at h4; cases h4;have hval:=bP hp.val hp.esN hv
 have hrun:(execOp a.eval ⟨none,.store T ax vx,ty,pos,aft,gd⟩).run P w = .ok .skip (w.setRow b (vs.take off++y.cells.toList++vs.drop (off+s)).toArray):=by have:=gn (P:=P) (w:=w) (T:=T) (off:=off) hs hh (v:=y) hsz h1 hfit;simp [execOp,Instr.storeAt,h5,Instr.sureAddr,hval,this]
 refine (Yl.skip hrun).mono ?_;rintro z w' ⟨rfl,rfl⟩;have hchg:dq [b] w (w.setRow b (vs.take off++y.cells.toList++vs.drop (off+s)).toArray):=gW _ _ _;refine ⟨g,V,[b],g.le_refl,fun c hc => .inl hc,fun c hc => ?_,hchg.mono (by simp),fun _ _=>rfl,?_,?_,by simp,?_⟩
 ·exact Nat.lt_of_lt_of_le (hp.imm c (.inl hc)) hchg.size
 ·intro u; simp only [Act.put]; exact hp.val u
 ·refine ⟨[b],[],by simp,⟨?_,trivial⟩,rfl⟩;show R _ _ _ (.arr T' _) (V (.slot t)) _;simp only [R];refine ⟨b,h3',rfl,?_⟩;rw [List.append_assoc];exact setRow_heap w b _ _ T' _ hh
 ·intro c hc;simp at hc; subst hc;have h6:=hp.own c (by simp);exact ⟨.inl (by simp),Nat.lt_of_lt_of_le h6.1 hchg.size,h6.2⟩
theorem kK (N:List aJ) {T:TypeId} (ax vx:Operand) {T':TypeId} {vs us:List Value} (t off:Nat) (y:Value) (hs:(P.info? T).map (·.size)=some 1)
  (hx:bm (N++[(t,.arr T' vs)]) ax = .ptr t off) (hv:rd N vx = .v y) (hy:y.cells = #[y]) (h1:y.oneCell'=true) (hlt:off<vs.length) (hus:vs.set off y=us) :
  bh P ⟨none,.store T ax vx,ty,pos,aft,gd⟩ N [(t,.arr T' vs)] [(t,.arr T' us)] [] :=
 pS N ax vx t off 1 y hs hx hv (by simp [hy]) (by simp [hy,h1]) (by omega) (by
  subst hus
  rw [hy]
  rw [List.set_eq_take_append_cons_drop,if_pos hlt]
  simp)
theorem cY (N:List aJ) {T:TypeId} (ax vx:Operand) {T':TypeId} {vs us:List Value} (t:Nat) (hs:(P.info? T).map (·.size)=some us.length)
  (hx:bm (N++[(t,.arr T' vs)]) ax = .ptr t 0) (hv:rd N vx = .v (.agg us.toArray)) (h1:∀ u∈us,u.oneCell'=true) (hl:vs.length=us.length) :
  bh P ⟨none,.store T ax vx,ty,pos,aft,gd⟩ N [(t,.arr T' vs)] [(t,.arr T' us)] [] :=
 pS N ax vx t 0 us.length _ hs hx hv (by simp [Value.cells]) (by simpa [Value.cells] using h1) (by omega) (by
  simp [Value.cells,hl.symm])
theorem sW (N:List aJ) (d:Nat) {T e:TypeId} (x y:Operand) {kd:IntKind} (n i:Nat) {vs:List Value} {v:Value} (hT:P.underlying T=some (.array n e)) (hz:(P.info? e).map (·.size)=some 1)
  (hx:rd N x = .v (.agg vs.toArray)) (hy:rd N y = .v (.int kd (i:Int))) (hi:i<n) (hv:vs[i]? = some v) (hu:(∃ td,P.underlying e=some td∧dn td=false)) :
  bh P ⟨some d,.index T x y,ty,pos,aft,gd⟩ N [] [(d,.v v)] [.slot d]:=by refine bh.value rfl rfl rfl fun g V oN a w hp => ?_;have h2:=bP hp.val hp.esN hx;have h3:=bP hp.val hp.esN hy;obtain ⟨td,hu,hag⟩:=hu;refine ⟨v,?_,by simp [R]⟩;have hlt:=(List.getElem?_eq_some_iff.1 hv).1;obtain ⟨_,rfl⟩:=List.getElem?_eq_some_iff.1 hv;simp [execOp,Instr.index,Sem.run_bind,run_underlying hT,h2,h3,asIntOf,bu hz,hi,part,qQ hu,hag,hlt]
theorem eT (N:List aJ) (d:Nat) {T e:TypeId} (x y:Operand) {kd:IntKind} {j:Int} (n t i:Nat) (hT:P.underlying T=some (.array n e)) (hz:(P.info? e).map (·.size)=some 1)
  (hx:bm N x = .ptr t 0) (hy:rd N y = .v (.int kd j)) (hj:j=(i:Int)) (hi:i<n) (ht:t≠d):bh P ⟨some d,.indexAddr T x y,ty,pos,aft,gd⟩ N [] [(d,.ptr t i)] [.slot d]:=by subst hj;have:=cv (ty:=ty) (pos:=pos) (aft:=aft) (gd:=gd) N d x y n t 0 i 1 hT hz hx hy hi ht;simpa using this
theorem jd (N:List aJ) (d:Nat) {T e:TypeId} {n:Nat} {parts:Array (Nat×Operand)} (z:Value) (us:List Value) (iD:List (Nat×Value)) (hT:P.underlying T=some (.array n e)) (hz:(P.info? e).map (·.size)=some 1)
  (hzv:(P.info? T).bind (·.zero)=some z) (hv:∀ (g:Gh) (V:bF→Value) (w:World) (o:List Nat) (a:Act),(∀ t,V (.slot t)=a.tmps.getD t undef)→Es g V w N o→(parts.map fun (i,x)=>(i,a.eval x)).toList=iD)
  (hf:Instr.fill (fun i=>some (i * 1,1)) z.cells iD=some us.toArray) :
  bh P ⟨some d,.build T parts,ty,pos,aft,gd⟩ N [] [(d,.v (.agg us.toArray))] [.slot d]:=by refine bh.value rfl rfl rfl fun g V oN a w hp => ?_;have hvals:=hv g V w oN a hp.val hp.esN;refine ⟨.agg us.toArray,?_,by simp [R]⟩;simp only [execOp,Instr.build,Sem.run_bind,jg hzv,Result.andThen_ok,run_underlying hT,bu hz,hvals];simp only [Nat.mul_one] at hf;simp [hf]
end
def mr {α:Type} (n:Nat) (l:List α):Option (List α):=if l.length=n then some l else none
theorem bN {α β:Type} {f:α→β} {n:Nat} {l v:List α} (h:mr n l=some v):n=(List.map f l).length:=by
 unfold mr at h;split at h
 ·next e=>simp [e]
 ·cases h
theorem gH {α β:Type} {f:α→β} {l:List α} {i:Nat} {v:α} (h:bK l i=some v):(List.map f l)[i]? = some (f v):=by unfold bK at h;simp [h]
theorem jO {α:Type} {f:α→Value} (hf:∀ x,(f x).oneCell'=true) (l:List α):∀ u∈List.map f l,u.oneCell'=true:=by intro u hu;obtain ⟨x,_,rfl⟩:=List.mem_map.1 hu;exact hf x
def Ba {α:Type} (l:List α) (i:Nat) (x:α):Option (List α):=if i<l.length then some (l.set i x) else none
theorem yH {α β:Type} {f:α→β} {l v:List α} {i:Nat} {x:α} (h:Ba l i x=some v):i<(List.map f l).length:=by
 unfold Ba at h;split at h
 ·simpa
 ·cases h
theorem zk {α β:Type} {f:α→β} {l v:List α} {i:Nat} {x:α} (h:Ba l i x=some v):(List.map f l).set i (f x)=List.map f v:=by
 unfold Ba at h;split at h
 ·cases h; exact (List.map_set).symm
 ·cases h
end Go.Abs
end
section
namespace Go.Abs
def ec (s:ME):List Int:=s.data.toList.map fun b=>(b.toNat:Int)
section
variable {P:Program} {ty:TypeId} {pos:String} {aft:Array Edge} {gd:Option (Nat×Bool)}
theorem wJ (w:World) (e:TypeId) (s:ME):dq [] w (Lib.bytesWorld w e s):=by
 refine ⟨?_,?_,?_,by rw [Lib.bytesWorld_size]; omega,fun k hk _=>Lib.bytesWorld_at_old w e s k hk⟩ <;>
  simp [Lib.bytesWorld,World.freeze,World.alloc,World.drew,-World.alloc_eq,-World.drew_eq]
theorem gq (N:List aJ) (x d:Nat) {T e E:TypeId} {vs:List Value} (ht:P.underlying T=some (.slice e)) (he:P.underlying e=some (.int .u8)) (hne:vs≠[]) :
  bh P ⟨some d,.convert T T (.tmp x),ty,pos,aft,gd⟩ N [(x,.fl (.own E) 1 vs)] [(d,.fl .ro 1 vs)] [.slot d]:=by
 refine bh.core fun g V oN oT a w hd hp => ?_;have hT:=hp.esT;simp only [Es] at hT;obtain ⟨ob,o2,rfl,⟨hR,_⟩,rfl⟩:=hT;simp only [R,bW] at hR;obtain ⟨A,n,c,⟨hx,hnc⟩,hlen,hone,hrd,how,ho⟩:=hR;obtain ⟨_,how⟩:=how;rcases how with ⟨h1,h2⟩ | ⟨b,cap,cur,h1,_,hh,_,_,_,_⟩
 ·exfalso; rw [h2] at hlen; exact hne (List.eq_nil_of_length_eq_zero (by omega))
 have hxe:V (.slot x) = .slice (some ⟨b,0,none⟩) n cap:=h1;have hev:a.eval (.tmp x) = .slice (some ⟨b,0,none⟩) n cap:=by simp only [Act.eval,← hp.val]; exact hxe
 have hob:ob=[b]:=by rw [ho,hxe]; rfl
 subst hob
 have hw:w.freeze ⟨b,cur.size,none⟩ 1={ w with heap:=w.heap.modify b fun | .cells c elem (lo,hi) => .cells c elem (if lo==hi then (cur.size,cur.size+1) else (min lo cur.size,max hi (cur.size+1))) | o=>o }:=by simp [World.freeze];rfl
 have hnew:(w.freeze ⟨b,cur.size,none⟩ 1).heap[b]? = some (.cells cur E (cur.size,cur.size+1)):=by rw [hw]; simp only [Array.getElem?_modify,hh]; simp
 have hold:∀ k,k≠b→(w.freeze ⟨b,cur.size,none⟩ 1).heap[k]? = w.heap[k]? := by intro k hk;rw [hw]; simp only [Array.getElem?_modify]; rw [if_neg (fun e=>hk e.symm)]
 have hsz:(w.freeze ⟨b,cur.size,none⟩ 1).heap.size=w.heap.size:=by rw [hw]; simp
 have hshape:w.shape? b=some (E,cur.size):=by simp [World.shape?,hh]
 have hrun:(execOp a.eval ⟨some d,.convert T T (.tmp x),ty,pos,aft,gd⟩).run P w = .ok (.value (.slice (some ⟨b,0,none⟩) n cap)) (w.freeze ⟨b,cur.size,none⟩ 1):=by simp [execOp,hev,convert,run_underlying ht,run_underlying he,markStringish,hshape]
 refine (Yl.val hrun).mono ?_;rintro y w' ⟨rfl,rfl⟩;have hlt:d<g.n:=hd d rfl;have hbi:=hp.own b (by simp);refine ⟨{ g with Imm:=fun k=>g.Imm k∨k=b },ck V d _,[],⟨rfl,rfl,rfl,rfl,rfl,fun _ h => .inl h,fun k hk => ?_⟩,fun k hk => ?_,fun k hk => ?_,⟨rfl,rfl,rfl,by rw [hsz]; exact aq _,fun k hk hkb=>hold k (by simpa using hkb)⟩,fun l hl=>bY hl,fun u=>cU hp.val hp.size hlt u,?_,by simp,by simp⟩
 ·rcases hk with hk | hk
  ·exact .inl hk
  ·subst hk; exact .inr (hp.own2 _ (by simp))
 ·rcases hk with hk | hk
  ·exact .inl hk
  ·exact .inr (.inl (by simp [hk]))
 ·rw [hsz];rcases hk with hk | hk
  ·exact hp.imm k (.inl hk)
  ·subst hk; exact hbi.1
 ·refine ⟨[],[],rfl,⟨?_,trivial⟩,rfl⟩;show R _ _ _ (.fl .ro 1 vs) (ck V d _ (.slot d)) [];rw [cC];simp only [R,bW];refine ⟨some ⟨b,0,none⟩,n,cap,⟨rfl,?_⟩,hlen,hone,fun hv => ?_,trivial,fun _=>⟨_,rfl,.inr rfl⟩⟩
  ·rw [hxe] at hx; cases hx; exact hnc
  ·obtain ⟨ad,e1,hr⟩:=hrd hv;rw [hxe] at hx; cases hx
   cases e1
   refine ⟨_,rfl,fun j u hj => ?_⟩;have h3:=hr j u hj;rw [← h3];simp only [World.cell?];have e3:((⟨b,0,none⟩:Addr).add j).block=b:=by rw [cw]
   rw [e3,hnew,hh]
end
end Go.Abs
end
section
namespace Go.Abs
def Fx (P:Program) (t:TypeId) (x y:Value):Option Bool :=
 match P.underlying t,x,y with
 | some .bool,.bool a,.bool b=>some (a==b)
 | some (.int _),.int k a,.int k' b=>if k=k' then some (a==b) else none
 | some .string,.string a,.string b=>some (a.toList==b.toList)
 | _,_,_=>none
def pD (P:Program):List TypeId→List Value→List Value→Option Bool
 | [],[],[]=>some true
 | t::ts,x::xs,y::ys=>match Fx P t x y,pD P ts xs ys with
  | some a,some b=>some (a&&b)
  | _,_=>none
 | _,_,_=>none
section
variable {P:Program} {ty:TypeId} {pos:String} {aft:Array Edge} {gd:Option (Nat×Bool)}
theorem Ck (w:World) (d:Nat) {t:TypeId} {x y:Value} {b:Bool} (h:Fx P t x y=some b):(Op.equalIn (d+1) t x y).run P w = .ok b w:=by
 unfold Fx at h;split at h
 ·rename_i hu; cases h; exact run_equalIn_bool' w d t _ _ hu
 ·rename_i k a k' b' hu;split at h
  ·rename_i hk; subst hk; cases h; exact run_equalIn_int w d t _ _ _ _ hu
  ·cases h
 ·rename_i hu; cases h; exact run_equalIn_string w d t _ _ hu
 ·cases h
theorem xN {t:TypeId} {x y:Value} {b:Bool} (h:Fx P t x y=some b):∃ td,P.underlying t=some td∧dn td=false:=by
 unfold Fx at h;split at h
 ·rename_i hu; exact ⟨_,hu,rfl⟩
 ·rename_i hu; exact ⟨_,hu,rfl⟩
 ·rename_i hu; exact ⟨_,hu,rfl⟩
 ·cases h
theorem nM (w:World) {t:TypeId} {td:TypeDesc} (hu:P.underlying t=some td) (ha:dn td=false) {cs:Array Value} {off:Nat} {v:Value} (hv:cs[off]? = some v):(part t cs off).run P w = .ok v w:=by cases td <;> simp_all [part,isAgg,run_underlying hu,dn]
theorem pC (d : Nat) (xs ys : Array Value) : ∀ (fs : List Field) (k : Nat) (l m : List Value) (b : Bool) (w : World), (∀ f ∈ fs, f.name ≠ "_") → fs.map (·.offset) = (List.range' k fs.length) → xs.toList.drop k = l → ys.toList.drop k = m →
  pD P (fs.map (·.type)) l m=some b→(Op.eqFields (d+1) xs ys fs).run P w = .ok b w
 | [],k,l,m,b,w,_,_,_,_,h=>by
  cases l <;> cases m <;> simp [pD] at h
  subst h
  simp [Op.eqFields]
 | f::fs,k,l,m,b,w,hn,ho,hl,hm,h=>by
  have hf:=hn f (by simp)
  simp only [List.map_cons,List.length_cons,List.range'_succ,List.cons.injEq] at ho
  cases l with
  | nil=>simp [pD] at h
  | cons x l =>
   cases m with
   | nil=>simp [pD] at h
   | cons y m =>
    simp only [List.map_cons,pD] at h
    cases h1:Fx P f.type x y with
    | none=>simp [h1] at h
    | some a =>
     cases h2:pD P (fs.map (·.type)) l m with
     | none=>simp [h1,h2] at h
     | some c =>
      simp only [h1,h2,Option.some.injEq] at h
      subst h
      obtain ⟨td,hu,ha⟩:=xN h1
      have gx:xs[f.offset]? = some x:=by
       rw [ho.1,← Array.getElem?_toList]
       have:=congrArg (fun z=>z[0]?) hl
       simpa using this
      have gy:ys[f.offset]? = some y:=by
       rw [ho.1,← Array.getElem?_toList]
       have:=congrArg (fun z=>z[0]?) hm
       simpa using this
      have hl':xs.toList.drop (k+1)=l:=by rw [← List.tail_drop,hl]; rfl
      have hm':ys.toList.drop (k+1)=m:=by rw [← List.tail_drop,hm]; rfl
      have ih:=pC d xs ys fs (k+1) l m c w (fun f hf=>hn f (by simp [hf])) ho.2 hl' hm' h2
      simp only [Op.eqFields,ne_eq,hf,not_false_eq_true,if_true,Sem.run_bind,nM w hu ha gx,nM w hu ha gy,Result.andThen_ok,Ck w d h1]
      cases a
      ·simp
      ·simpa using ih
theorem rD (d:Nat) (e:TypeId) (xs ys:Array Value):∀ (n k:Nat) (l m:List Value) (b:Bool) (w:World),xs.toList.drop k=l→ys.toList.drop k=m →
  pD P (List.replicate n e) l m=some b→(Op.eqItems (d+1) e 1 xs ys (List.range' k n)).run P w = .ok b w
 | 0,k,l,m,b,w,_,_,h=>by
  cases l <;> cases m <;> simp [pD] at h
  subst h
  simp [Op.eqItems]
 | n+1,k,l,m,b,w,hl,hm,h=>by
  rw [List.replicate_succ] at h
  cases l with
  | nil=>simp [pD] at h
  | cons x l =>
   cases m with
   | nil=>simp [pD] at h
   | cons y m =>
    simp only [pD] at h
    cases h1:Fx P e x y with
    | none=>simp [h1] at h
    | some a =>
     cases h2:pD P (List.replicate n e) l m with
     | none=>simp [h1,h2] at h
     | some c =>
      simp only [h1,h2,Option.some.injEq] at h
      subst h
      obtain ⟨td,hu,ha⟩:=xN h1
      have gx:xs[k * 1]? = some x:=by
       rw [Nat.mul_one,← Array.getElem?_toList]
       have:=congrArg (fun z=>z[0]?) hl
       simpa using this
      have gy:ys[k * 1]? = some y:=by
       rw [Nat.mul_one,← Array.getElem?_toList]
       have:=congrArg (fun z=>z[0]?) hm
       simpa using this
      have hl':xs.toList.drop (k+1)=l:=by rw [← List.tail_drop,hl]; rfl
      have hm':ys.toList.drop (k+1)=m:=by rw [← List.tail_drop,hm]; rfl
      have ih:=rD d e xs ys n (k+1) l m c w hl' hm' h2
      simp only [List.range'_succ,Op.eqItems,Sem.run_bind,nM w hu ha gx,nM w hu ha gy,Result.andThen_ok,Ck w d h1]
      cases a
      ·simp
      ·simpa using ih
theorem xA {e:TypeId} {k k':IntKind} (he:P.underlying e=some (.int k')):∀ (l m:List Int),l.length=m.length→pD P (List.replicate l.length e) (l.map (Value.int k)) (m.map (Value.int k))=some (l==m)
 | [],[],_=>by simp [pD]
 | x::l,y::m,h=>by
  have h1:Fx P e (.int k x) (.int k y)=some (x==y):=by simp [Fx,he]
  simp only [List.length_cons,List.replicate_succ,List.map_cons,pD,h1,xA he l m (by simpa using h)]
  simp
 | [],_::_,h=>by simp at h
 | _::_,[],h=>by simp at h
theorem qB (w:World) {op:BinOp} {t:TypeId} {x y:Operand} {a b:Array Value} (hg:P.eqGuardType P.depth t=false):(eqGuard op t x y (.agg a) (.agg b)).run P w = .ok () w:=by
 unfold eqGuard
 cases op <;> simp [hg]
theorem xr {α:Type} {n:Nat} {l v:List α} (h:mr n l=some v):l.length=n:=by
 unfold mr at h;split at h
 ·assumption
 ·cases h
theorem nG (N:List aJ) (d:Nat) {t t' e:TypeId} {n:Nat} {i:TypeInfo} {x y:Operand} {k k':IntKind} {l m:List Int} (r:Bool) (hT:P.underlying t=some (.array n e)) (he:P.underlying e=some (.int k')) (hi:P.info? e=some i) (hce:P.cellsOf e=1) (hg:P.eqGuardType P.depth t=false)
  (hx:rd N x = .v (.agg (l.map (Value.int k)).toArray)) (hy:rd N y = .v (.agg (m.map (Value.int k)).toArray)) (hl:l.length=n) (hm:m.length=n) (hr:(l==m)=r) :
  bh P ⟨some d,.binOp .eql t x y t',ty,pos,aft,gd⟩ N [] [(d,.v (.bool r))] [.slot d]:=by
 subst hr;refine bh.v rfl fun g V oN ac w hp => ?_;have h1:=bP hp.val hp.esN hx;have h2:=bP hp.val hp.esN hy
 have he2:(Op.equal t (.agg (l.map (Value.int k)).toArray) (.agg (m.map (Value.int k)).toArray)).run P w = .ok (l==m) w:=by unfold Op.equal;rw [show Op.maxDepth=9998+1+1 from rfl];generalize 9998=q;rw [run_equalIn_array w (q+1) _ _ hT hi,hce,List.range_eq_range'];have hv:=xA (P:=P) (k:=k) he l m (by omega);rw [hl] at hv;exact rD q e _ _ n 0 _ _ _ w rfl rfl hv
 have hgu:=qB (P:=P) w (op := .eql) (x:=x) (y:=y) (a:=(l.map (Value.int k)).toArray) (b:=(m.map (Value.int k)).toArray) hg;have hb:binOp .eql t (.agg (l.map (Value.int k)).toArray) (.agg (m.map (Value.int k)).toArray)=(do pure (.bool (← Op.equal t (.agg (l.map (Value.int k)).toArray) (.agg (m.map (Value.int k)).toArray)))):=rfl;simp only [execOp,h1,h2,hb,Sem.run_bind,hgu,Result.andThen_ok,he2];simp
def iD:List AV→Option (List Value)
 | []=>some []
 | .v x::cs=>(iD cs).map (x :: ·)
 | _=>none
theorem zo {g:Gh} {V:bF→Value} {w:World}:∀ {cs:List AV} {vs xs:List Value} {o:List Nat},iD cs=some vs→Rs g V w cs xs o→xs=vs
 | [],vs,xs,o,h,hr=>by simp only [iD,Option.some.injEq] at h; simp only [Rs] at hr; rw [hr.1,h]
 | c::cs,vs,xs,o,h,hr=>by
  cases c <;> simp only [iD,Option.map_eq_some_iff,reduceCtorEq] at h
  obtain ⟨vs',h1,rfl⟩:=h
  simp only [Rs,R] at hr
  obtain ⟨x,xs',o1,o2,rfl,rfl,⟨rfl,_⟩,h4⟩:=hr
  rw [zo h1 h4]
theorem lF (N:List aJ) (d:Nat) {t t':TypeId} {x y:Operand} {cs ds:List AV} (xs ys:List Value) (b r:Bool) (neg:Bool) (hT:P.underlying t=some (.struct (P.fieldsOf t))) (hp:P.stoodInHeld t=false) (hg:P.eqGuardType P.depth t=false)
  (hn : (P.fieldsOf t).toList.all (fun f => f.name != "_") = true) (ho : (P.fieldsOf t).toList.map (·.offset) = List.range' 0 (P.fieldsOf t).toList.length)
  (hx:rd N x = .agg cs) (hy:rd N y = .agg ds) (hc:iD cs=some xs) (hd:iD ds=some ys) (hv:pD P ((P.fieldsOf t).toList.map (·.type)) xs ys=some b) (hr:(if neg then !b else b)=r) :
  bh P ⟨some d,.binOp (if neg then .neq else .eql) t x y t',ty,pos,aft,gd⟩ N [] [(d,.v (.bool r))] [.slot d]:=by
 refine bh.v rfl fun g V oN ac w hpre => ?_;obtain ⟨o1,_,h1⟩:=kt hpre.val hpre.esN x;obtain ⟨o2,_,h2⟩:=kt hpre.val hpre.esN y;rw [hx] at h1; rw [hy] at h2;simp only [R] at h1 h2;obtain ⟨xs',e1,h1⟩:=h1;obtain ⟨ys',e2,h2⟩:=h2;have:=zo hc h1; subst this;have:=zo hd h2; subst this
 have he2:(Op.equal t (.agg xs'.toArray) (.agg ys'.toArray)).run P w = .ok b w:=by unfold Op.equal;rw [show Op.maxDepth=9998+1+1 from rfl];generalize 9998=q;rw [run_equalIn_struct w (q+1) t _ _ hT hp];exact pC q _ _ _ 0 _ _ b w (fun f hf=>by simpa using aR.1 hn f hf) ho (by simp) (by simp) hv
 subst hr
 cases neg
 ·have hgu:=qB (P:=P) w (op := .eql) (x:=x) (y:=y) (a:=xs'.toArray) (b:=ys'.toArray) hg;have hb:binOp .eql t (.agg xs'.toArray) (.agg ys'.toArray)=(do pure (.bool (← Op.equal t (.agg xs'.toArray) (.agg ys'.toArray)))):=rfl;simp only [execOp,e1,e2,hb,Sem.run_bind,hgu,Result.andThen_ok,he2,Bool.false_eq_true,if_false];simp
 ·have hgu:=qB (P:=P) w (op := .neq) (x:=x) (y:=y) (a:=xs'.toArray) (b:=ys'.toArray) hg;have hb:binOp .neq t (.agg xs'.toArray) (.agg ys'.toArray)=(do pure (.bool (!(← Op.equal t (.agg xs'.toArray) (.agg ys'.toArray))))):=rfl;simp only [execOp,e1,e2,hb,Sem.run_bind,hgu,Result.andThen_ok,he2,if_true];simp
end
end Go.Abs
end
section
namespace Go.Abs
def Ib (o0:List Nat) (Imm Im:Nat→Prop) (w:World) (res:AV) (e:Ending) (w':World):Prop :=
 ∃ x,e = .returned x∧dq o0 w w'∧∃ (Imm':Nat→Prop) (o:List Nat),(∀ b,Imm b→Imm' b)∧(∀ b,Imm' b→Imm b∨b∈o0∨(w.heap.size≤b∧b<w'.heap.size)) ∧
  R (cz w Imm' Im) V0 w' res x o∧o.Nodup∧∀ b∈o,(b∈o0∨w.heap.size≤b)∧b<w'.heap.size∧¬ Imm' b
def Hn (P:Program) (f:FuncId) (args:List AV) (res:AV):Prop :=
 ∀ (Imm Im:Nat→Prop) (w:World) (xs:List Value) (o0:List Nat),(∀ b,Imm b∨Im b→b<w.heap.size)→Rs (cz w Imm Im) V0 w args xs o0→o0.Nodup→(∀ b∈o0,b<w.heap.size∧¬ (Imm b∨Im b)) →
  Calls P f xs.toArray w (Ib o0 Imm Im w res)
def uU (P:Program) (fn:Func) (o0:List Nat) (Imm Im:Nat→Prop) (w:World) (res:AV):Exit→Act→World→Prop:=bodyPost P fn (Ib o0 Imm Im w res)
section
variable {P:Program} {Q:Exit→Act→World→Prop} {g0:Gh} {rnd:Option Nat}
theorem zV {g:Gh} {V:bF→Value} {w:World} (hV:∀ av x o,bq av=true→R g V0 w av x o→R g V w av x o):∀ (args:List AV) (xs:List Value) (k:Nat) (o:List Nat),bj args=true→args.all dM=true→Rs g V0 w args xs o→(∀ i x,xs[i]? = some x→V (.slot (k+i))=x) →
  Es g V w ((args.zipIdx k).map fun p=>(p.2,p.1)) o
 | [],xs,k,o,_,_,h,_=>by simp only [Rs] at h; exact h.2
 | av::args,xs,k,o,hc,hb,h,hv=>by
  simp only [Rs] at h
  obtain ⟨x,xs',o1,o2,rfl,rfl,h1,h2⟩:=h
  simp only [bj,ah] at hc
  simp only [List.all_cons,ah] at hb
  simp only [List.zipIdx_cons,List.map_cons]
  have h0:V (.slot k)=x:=by simpa using hv 0 x rfl
  refine ⟨o1,o2,rfl,⟨?_,?_⟩,zV hV args xs' (k+1) o2 hc.2 hb.2 h2 fun i y hy => ?_⟩
  ·show R g V w av (V (.slot k)) o1
   rw [h0]; exact hV av x o1 hc.1 h1
  ·cases av <;> first | trivial | (simp [dM] at hb)
  ·have:=hv (i+1) y (by simpa using hy)
   rwa [show k+1+i=k+(i+1) by omega]
theorem Il {f:FuncId} {fn:Func} {c:Code} {args:List AV} {res:AV} (hf:P.funcs[f]? = some fn) (hb:fn.body=some c) (hk:args.length≤fn.ntmps) (hcl:bj args=true) (hnb:args.all dM=true)
  (h:∀ g0:Gh,g0.n=fn.ntmps→g0.ds=[]→HT none P (uU P fn g0.io g0.Imm g0.Im g0.w0 res) g0 c (cB args)):Hn P f args res:=by
 intro Imm Im w xs o0 himm hR hnd ho0;have hlen:=aZ hR;refine calls_of_wp hf hb ((wpIn_wide (n:=0)).1 ?_);have hg:=h ⟨fn.ntmps,w,o0,Imm,Im,[]⟩ rfl rfl ⟨fn.ntmps,w,o0,Imm,Im,[]⟩ { tmps:=xs.toArray++Array.replicate (fn.ntmps-xs.toArray.size) undef,defers:=[] } w (Gh.le_refl _);refine hg ⟨fun l=>match l with | .slot t=>(xs.toArray++Array.replicate (fn.ntmps-xs.toArray.size) undef).getD t undef | .cell _ _=>undef,o0,⟨fun _=>rfl,?_,rfl,List.nodup_nil,by simp,hnd,fun b hb=>⟨(ho0 b hb).1,.inr hb,(ho0 b hb).2⟩,himm,dq.refl _ _⟩,?_⟩
 ·simp; omega
 ·unfold cB;refine zV (g:=⟨fn.ntmps,w,o0,Imm,Im,[]⟩) (fun av x o hc hr=>bV (fun _ h=>h) av x o hc (.inl fun _ h=>h) hr) args xs 0 o0 hcl hnb ?_ ?_
  ·exact bJ (g:=cz w Imm Im) (g':=⟨fn.ntmps,w,o0,Imm,Im,[]⟩) (V:=V0) (V':=V0) (fun _ h=>h) args xs o0 hcl (.inl fun _ h=>h) hR
  ·intro i x hx;have hi:=(List.getElem?_eq_some_iff.1 hx).1;simp only [Nat.zero_add,Array.getD_eq_getD_getElem?];rw [Array.getElem?_append_left (by simpa using hi)];simp [hx]
theorem CT {fn:Func} {g0 g:Gh} {es:List aJ} {avs:List AV} {a:Act} {w:World} {Imm:Nat→Prop} (hds:g0.ds=[]) (hI0:g0.Imm=Imm) (hle:g0.le g) (hret:ng P fn.results.toList es avs) (hcl:bj avs=true) (hs:eX g es a w) :
  uU P fn g0.io Imm g0.Im g0.w0 (iW avs) .ret a w∧uU P fn g0.io Imm g0.Im g0.w0 (iW avs) .normal a w:=by
 have key:a.defers=[]∧∃ v,(results fn a.tmps).run P w = .ok v w∧Ib g0.io Imm g0.Im g0.w0 (iW avs) (.returned v) w:=by
  obtain ⟨V,o,hst,hes⟩:=hs;obtain ⟨xs,o',o'',hR,hperm,hrun⟩:=yT hst.val hret hes;have hnd:o'.Nodup:=(ag.1 (hperm.nodup_iff.1 hst.nodup)).1;have hsub:∀ b∈o',b∈o:=fun b hb=>hperm.mem_iff.2 (by simp [hb]);refine ⟨by rw [hst.defers,hle.ds,hds]; rfl,(if h:xs.length=1 then xs.getD 0 undef else .tuple xs.toArray),?_,?_⟩
  ·have hres:results fn a.tmps=(do let vs ← fn.results.mapM (lJ a.tmps); pure (if h:vs.size=1 then vs[0] else .tuple vs)):=by unfold results;congr 1
   rw [hres,Array.mapM_eq_mapM_toList];simp only [Sem.run_bind,Sem.run_map,hrun,Result.andThen_ok];by_cases h:xs.length=1
   ·simp [h]
   ·simp [h]
  ·refine ⟨_,rfl,by have:=hst.chg; rw [hle.w0,hle.io] at this; exact this,g.Imm,o',by rw [← hI0]; exact hle.Imm,?_,?_,hnd,?_⟩
   ·intro b hb;rcases hle.new b hb with h | h | h
    ·exact .inl (hI0 ▸ h)
    ·exact .inr (.inr ⟨h,hst.imm b (.inl hb)⟩)
    ·exact .inr (.inl h)
   ·have hlen:=aZ hR;have hM:∀ b,g.Im b→(cz g0.w0 g.Imm g0.Im).Im b:=fun b hb=>by rw [hle.Im] at hb; exact hb
    have hR':=bJ (g:=g) (g':=cz g0.w0 g.Imm g0.Im) (V':=V0) (fun _ h=>h) avs xs o' hcl (.inl hM) hR;unfold iW;split
    ·rename_i av;simp only [Rs] at hR';obtain ⟨x,xs',o1,o2,rfl,rfl,h1,rfl,rfl⟩:=hR';simpa using h1
    ·rename_i hne
     have:xs.length≠1:=by
      intro h1;rw [hlen] at h1
      match avs,h1 with
      | [av],_=>exact hne av rfl
     simp only [this,dite_false,R];exact ⟨xs,rfl,hR'⟩
   ·intro b hb;have:=hst.own b (hsub b hb);rw [hle.w0,hle.io] at this;exact ⟨this.2.1.symm,this.1,fun h=>this.2.2 (.inl h)⟩
 exact ⟨key,key⟩
theorem Gl {fn:Func} {Imm:Nat→Prop} {es:List aJ} {avs:List AV} {res:AV} (hds:g0.ds=[]) (hI:g0.Imm=Imm) (hret:ng P fn.results.toList es avs) (hcl:bj avs=true) (hres:iW avs=res):PT (uU P fn g0.io Imm g0.Im g0.w0 res) g0 .ret es:=by subst hres;exact fun g a w hg hs=>(CT hds hI hg hret hcl hs).1
theorem FN {fn:Func} {Imm:Nat→Prop} {es:List aJ} {avs:List AV} {res:AV} (hds:g0.ds=[]) (hI:g0.Imm=Imm) (hret:ng P fn.results.toList es avs) (hcl:bj avs=true) (hres:iW avs=res):PT (uU P fn g0.io Imm g0.Im g0.w0 res) g0 .normal es:=by subst hres;exact fun g a w hg hs=>(CT hds hI hg hret hcl hs).2
theorem mH {e:Exit} {es es':List aJ} (i:Nat) (_:g0.ds=[]) (he:(es.modify i fun e=>(e.1,nH e.2))=es') (h:PT Q g0 e es'):PT Q g0 e es:=by
 intro g a w hg hs;subst he;obtain ⟨V,o,hst,hes⟩:=hs;obtain ⟨o',o2,hp,hr⟩:=zf es i o hes;have hsub:∀ b∈o2,b∈o:=fun b hb=>hp.mem_iff.2 (by simp [hb]);have hsub':∀ b∈o',b∈o:=fun b hb=>hp.mem_iff.2 (by simp [hb]);have hnd:=hp.nodup_iff.1 hst.nodup;refine h { g with Imm:=fun b=>g.Imm b∨b∈o2 } a w (hg.trans ⟨rfl,rfl,rfl,rfl,rfl,fun b hb => .inl hb,fun b hb=>hb.imp id fun hb=>(hst.own b (hsub b hb)).2.1⟩) ⟨V,o',⟨hst.val,hst.size,hst.defers,hst.dnd,fun D hD => ?_,(ag.1 hnd).1,fun b hb => ?_,fun b hb => ?_,hst.chg⟩,hr _ (fun b hb => .inl hb) (fun b hb=>hb) (fun b hb => .inr hb)⟩
 ·obtain ⟨h1,h2,h3,h4⟩:=hst.marks D hD;refine ⟨h1,fun hm=>h2 (hsub' D hm),h3,?_⟩;rintro ((h5 | h5) | h5)
  ·exact h4 (.inl h5)
  ·exact h2 (hsub D h5)
  ·exact h4 (.inr h5)
 ·have:=hst.own b (hsub' b hb);refine ⟨this.1,this.2.1,?_⟩;rintro ((h1 | h1) | h1)
  ·exact this.2.2 (.inl h1)
  ·exact (ag.1 hnd).2.2 b hb b h1 rfl
  ·exact this.2.2 (.inr h1)
 ·rcases hb with (h1 | h1) | h1
  ·exact hst.imm b (.inl h1)
  ·exact (hst.own b (hsub b h1)).1
  ·exact hst.imm b (.inr h1)
end
section
variable {P:Program} {ty:TypeId} {pos:String} {aft:Array Edge} {gd:Option (Nat×Bool)}
theorem ft (W:List bF) (av:AV):bq av=true→eh W av=true :=
 AV.rec (motive_1:=fun av=>bq av=true→eh W av=true) (motive_2:=fun cs=>bj cs=true→cW W cs=true)
  (fun _=>rfl) (fun _ _=>rfl) (fun _ _ _ _=>rfl) (fun cs ih h=>by simp only [eh,bq] at *; exact ih h) (fun cs ih h=>by simp only [eh,bq] at *; exact ih h) (fun T cs ih h=>by simp only [eh,bq] at *; exact ih h)
  (fun l h=>by simp [bq] at h) (fun t i h=>by simp [bq] at h) (fun l k h=>by simp [bq] at h) (fun _ _ _=>rfl) (fun _ _ _ _ _=>rfl) (fun _ _=>rfl) (fun _ _ cs ih h=>by simp only [eh,bq] at *; exact ih h) (fun _ _ h=>by simp [bq] at h) (fun _ _ h=>by simp [bq] at h) (fun _ cs ih h=>by simp only [eh,bq] at *; exact ih h) (fun _ _=>rfl) (fun _ _ _=>rfl) (fun _ _ h=>by simp [bq] at h) (fun _ _=>rfl) (fun _=>rfl)
  (fun c cs ih1 ih2 h=>by simp only [cW,bj,Bool.and_eq_true] at *; exact ⟨ih1 h.1,ih2 h.2⟩) av
end
end Go.Abs
end
