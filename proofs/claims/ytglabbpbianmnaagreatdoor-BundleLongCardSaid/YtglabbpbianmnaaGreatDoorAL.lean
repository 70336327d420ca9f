/-
 The logic of places: texts AL AM AO AP AQ.
-/
import Derived.ChangeArms
import Derived.WideShapes
import Derived.DataReads
import Derived.Below
import Derived.Lib.AppendStr
import Derived.Test.YtglabbpbianmnaaGreatDoorAD
section
/-
 Calls that are given variables and rows of the caller's own: what is known of them behind the call.
-/
namespace Go.Abs
def AnsP (xs:List Value) (posts:List AV) (o0:List Nat) (Imm Im:Nat→Prop) (w:World) (res:AV) (e:Ending) (w':World):Prop :=
 ∃ x,e = .returned x∧Chg o0 w w'∧∃ (Imm':Nat→Prop) (o:List Nat),(∀ b,Imm b→Imm' b)∧(∀ b,Imm' b→Imm b∨b∈o0∨(w.heap.size≤b∧b<w'.heap.size)) ∧
  Rs (gh0 w Imm' Im) V0 w' (res::posts) (x::xs.take posts.length) o∧o.Nodup∧∀ b∈o,(b∈o0∨w.heap.size≤b)∧b<w'.heap.size∧¬ Imm' b
def FnP (P:Program) (f:FuncId) (args posts:List AV) (res:AV):Prop :=
 ∀ (Imm Im:Nat→Prop) (w:World) (xs:List Value) (o0:List Nat),(∀ b,Imm b∨Im b→b<w.heap.size)→Rs (gh0 w Imm Im) V0 w args xs o0→o0.Nodup→(∀ b∈o0,b<w.heap.size∧¬ (Imm b∨Im b)) →
  Calls P f xs.toArray w (AnsP xs posts o0 Imm Im w res)
def FnQP (P:Program) (fn:Func) (xs:List Value) (posts:List AV) (o0:List Nat) (Imm Im:Nat→Prop) (w:World) (res:AV):Exit→Act→World→Prop:=bodyPost P fn (AnsP xs posts o0 Imm Im w res)
def pinEnts (k:Nat) (xs:List Value):List Ent:=(List.range k).map fun i=>(i,.v (xs.getD i undef))
section
variable {P:Program} {Q:Exit→Act→World→Prop} {g0:Gh} {rnd:Option Nat}
theorem cellAt_box {w:World} {b:Nat} {ys:List Value} {T:TypeId} {i:Nat} (h:w.heap[b]? = some (.cells ys.toArray T (0,0))) (hi:i<ys.length) :
  w.cell? ⟨b,i,none⟩=some (cellAt w (.pointer (some ⟨b,0,none⟩)) i):=by
 simp only [cellAt]
 rw [cell_of_row w b i _ T (0,0) h]
 simp [hi]
theorem Es_argsP {g:Gh} {V:Loc→Value} {w:World} (hV:∀ av x o,closed av=true→R g V0 w av x o→R g V w av x o) (hC:∀ t i,V (.cell t i)=cellAt w (V (.slot t)) i):∀ (args:List AV) (xs:List Value) (k:Nat) (o:List Nat),closeds args=true→Rs g V0 w args xs o→(∀ i x,xs[i]? = some x→V (.slot (k+i))=x) →
  Es g V w ((args.zipIdx k).map fun p=>(p.2,p.1)) o
 | [],xs,k,o,_,h,_=>by simp only [Rs] at h; exact h.2
 | av::args,xs,k,o,hc,h,hv=>by
  simp only [Rs] at h
  obtain ⟨x,xs',o1,o2,rfl,rfl,h1,h2⟩:=h
  simp only [closeds,Bool.and_eq_true] at hc
  simp only [List.zipIdx_cons,List.map_cons]
  have h0:V (.slot k)=x:=by simpa using hv 0 x rfl
  refine ⟨o1,o2,rfl,⟨?_,?_⟩,Es_argsP hV hC args xs' (k+1) o2 hc.2 h2 fun i y hy => ?_⟩
  ·show R g V w av (V (.slot k)) o1
   rw [h0]; exact hV av x o1 hc.1 h1
  ·cases av <;> try trivial
   case box T cs =>
    intro b hb i hi
    dsimp only at hb hi ⊢
    simp only [R] at h1
    obtain ⟨b',ys,os,hx,_,hh,hrs⟩:=h1
    rw [h0,hx] at hb
    cases hb
    rw [hC,h0,hx]
    exact cellAt_box hh (by rw [Rs_length hrs]; exact hi)
  ·have:=hv (i+1) y (by simpa using hy)
   rwa [show k+1+i=k+(i+1) by omega]
theorem Es_pins {g:Gh} {V:Loc→Value} {w:World} {xs:List Value}:∀ (l:List Nat),(∀ i∈l,V (.slot i)=xs.getD i undef)→Es g V w (l.map fun i=>(i,.v (xs.getD i undef))) []
 | [],_=>rfl
 | i::l,h=>⟨[],[],rfl,⟨by simp only [R]; exact ⟨h i (by simp),trivial⟩,trivial⟩,Es_pins l fun j hj=>h j (by simp [hj])⟩
theorem pins_get {g:Gh} {V:Loc→Value} {w:World} {xs:List Value}:∀ (l:List Nat) {o:List Nat},Es g V w (l.map fun i=>(i,.v (xs.getD i undef))) o→(∀ i∈l,V (.slot i)=xs.getD i undef)∧o=[]
 | [],o,h=>⟨by simp,h⟩
 | i::l,o,h=>by
  obtain ⟨o1,o2,rfl,⟨h1,_⟩,h2⟩:=h
  simp only [R] at h1
  obtain ⟨h3,rfl⟩:=pins_get l h2
  refine ⟨?_,by rw [h1.2]; rfl⟩
  intro j hj
  rcases List.mem_cons.1 hj with rfl | hj
  ·exact h1.1
  ·exact h3 j hj
theorem Es_posts {g:Gh} {V:Loc→Value} {w:World}:∀ (posts:List AV) (k:Nat) {o:List Nat},Es g V w ((posts.zipIdx k).map fun p=>(p.2,p.1)) o→Rs g V w posts ((List.range' k posts.length).map fun i=>V (.slot i)) o
 | [],k,o,h=>⟨rfl,h⟩
 | av::posts,k,o,h=>by
  simp only [List.zipIdx_cons,List.map_cons] at h
  obtain ⟨o1,o2,rfl,⟨h1,_⟩,h2⟩:=h
  simp only [List.length_cons,List.range'_succ,List.map_cons,Rs]
  exact ⟨_,_,o1,o2,rfl,rfl,h1,Es_posts posts (k+1) h2⟩
theorem ret_okP {fn:Func} {g0 g:Gh} {xs:List Value} {es:List Ent} {avs posts:List AV} {a:Act} {w:World} {Imm:Nat→Prop} (hds:g0.ds=[]) (hI0:g0.Imm=Imm) (hle:g0.le g) (hret:RetL P fn.results.toList es avs) (hcl:closeds avs=true) (hclp:closeds posts=true) (hpl:posts.length≤xs.length) (hs:Sat g (es++(argEnts posts++pinEnts posts.length xs)) a w) :
  FnQP P fn xs posts g0.io Imm g0.Im g0.w0 (resAV avs) .ret a w∧FnQP P fn xs posts g0.io Imm g0.Im g0.w0 (resAV avs) .normal a w:=by
 have key:a.defers=[]∧∃ v,(results fn a.tmps).run P w = .ok v w∧AnsP xs posts g0.io Imm g0.Im g0.w0 (resAV avs) (.returned v) w:=by
  obtain ⟨V,o,hst,hes⟩:=hs
  obtain ⟨oA,oB,rfl,hA,hB⟩:=Es_append.1 hes
  obtain ⟨oP,oQ,rfl,hP,hQ⟩:=Es_append.1 hB
  obtain ⟨hpin,rfl⟩:=pins_get _ hQ
  have hPs:=Es_posts posts 0 hP
  have hvals:((List.range' 0 posts.length).map fun i=>V (.slot i))=xs.take posts.length:=by
   apply List.ext_getElem?
   intro i
   simp only [List.getElem?_map,List.getElem?_take]
   by_cases hi:i<posts.length
   ·rw [List.getElem?_range' hi,if_pos hi,List.getElem?_eq_getElem (by omega:i<xs.length)]
    simp only [Option.map_some]
    have:=hpin i (by simp [hi])
    rw [show 0+1 * i=i by omega,this]
    simp [List.getD,show i<xs.length by omega]
   ·rw [if_neg hi,List.getElem?_eq_none (by simpa using hi)]; rfl
  rw [hvals] at hPs
  obtain ⟨ys,o',o'',hR,hperm,hrun⟩:=run_ret hst.val hret hA
  have hndA:=(List.nodup_append.1 hst.nodup).1
  have hnd:o'.Nodup:=(List.nodup_append.1 (hperm.nodup_iff.1 hndA)).1
  have hsub:∀ b∈o'++oP,b∈oA++(oP++[]):=fun b hb=>by
   rcases List.mem_append.1 hb with h | h
   ·have:=hperm.mem_iff.2 (List.mem_append.2 (.inl h)); simp [this]
   ·simp [h]
  have hnd2:(o'++oP).Nodup:=by
   have hn:=List.nodup_append.1 hst.nodup
   refine List.nodup_append.2 ⟨hnd,by simpa using hn.2.1,fun b hb c hc=>hn.2.2 b (hperm.mem_iff.2 (by simp [hb])) c (by simp [hc])⟩
  refine ⟨by rw [hst.defers,hle.ds,hds]; rfl,(if h:ys.length=1 then ys.getD 0 undef else .tuple ys.toArray),?_,?_⟩
  ·have hres:results fn a.tmps=(do let vs ← fn.results.mapM (retOne a.tmps); pure (if h:vs.size=1 then vs[0] else .tuple vs)):=by
    unfold results
    congr 1
   rw [hres,Array.mapM_eq_mapM_toList]
   simp only [Sem.run_bind,Sem.run_map,hrun,Result.andThen_ok]
   by_cases h:ys.length=1
   ·simp [h]
   ·simp [h]
  ·refine ⟨_,rfl,by have:=hst.chg; rw [hle.w0,hle.io] at this; exact this,g.Imm,o'++oP,by rw [← hI0]; exact hle.Imm,?_,?_,hnd2,?_⟩
   ·intro b hb
    rcases hle.new b hb with h | h | h
    ·exact .inl (hI0 ▸ h)
    ·exact .inr (.inr ⟨h,hst.imm b (.inl hb)⟩)
    ·exact .inr (.inl h)
   ·have hlen:=Rs_length hR
    have hM:∀ b,g.Im b→(gh0 g0.w0 g.Imm g0.Im).Im b:=fun b hb=>by rw [hle.Im] at hb; exact hb
    have hR':=Rs_closed (g:=g) (g':=gh0 g0.w0 g.Imm g0.Im) (V':=V0) (fun _ h=>h) avs ys o' hcl (.inl hM) hR
    have hP':=Rs_closed (g:=g) (g':=gh0 g0.w0 g.Imm g0.Im) (V':=V0) (fun _ h=>h) posts _ oP hclp (.inl hM) hPs
    simp only [Rs]
    refine ⟨_,_,o',oP,rfl,rfl,?_,hP'⟩
    unfold resAV
    split
    ·rename_i av
     simp only [Rs] at hR'
     obtain ⟨x,xs',o1,o2,rfl,rfl,h1,rfl,rfl⟩:=hR'
     simpa using h1
    ·rename_i hne
     have:ys.length≠1:=by
      intro h1
      rw [hlen] at h1
      match avs,h1 with
      | [av],_=>exact hne av rfl
     simp only [this,dite_false,R]
     exact ⟨ys,rfl,hR'⟩
   ·intro b hb
    have:=hst.own b (hsub b hb)
    rw [hle.w0,hle.io] at this
    exact ⟨this.2.1.symm,this.1,fun h=>this.2.2 (.inl h)⟩
 exact ⟨key,key⟩
theorem pt_endP {fn:Func} {xs:List Value} {Imm:Nat→Prop} {es fs:List Ent} {avs posts:List AV} {res:AV} (hds:g0.ds=[]) (hI:g0.Imm=Imm) (hfs:es++(argEnts posts++pinEnts posts.length xs)=fs) (hret:RetL P fn.results.toList es avs) (hcl:closeds avs=true) (hclp:closeds posts=true) (hpl:posts.length≤xs.length) (hres:resAV avs=res):PT (FnQP P fn xs posts g0.io Imm g0.Im g0.w0 res) g0 .normal fs:=by
 subst hres; subst hfs
 exact fun g a w hg hs=>(ret_okP hds hI hg hret hcl hclp hpl hs).2
end
section
variable {P:Program} {ty:TypeId} {pos:String} {aft:Array Edge} {gd:Option (Nat×Bool)}
theorem Es_Rs {g:Gh} {V:Loc→Value} {w:World}:∀ {T:List Ent} {o:List Nat},Es g V w T o→Rs g V w (T.map (·.2)) (T.map fun e=>V (.slot e.1)) o
 | [],o,h=>⟨rfl,h⟩
 | e::T,o,h=>by
  obtain ⟨o1,o2,rfl,⟨h1,_⟩,h2⟩:=h
  simp only [List.map_cons,Rs]
  exact ⟨_,_,o1,o2,rfl,rfl,h1,Es_Rs h2⟩
def zipP:List Ent→List AV→List Ent
 | e::T,p::ps=>(e.1,p)::zipP T ps
 | _,_=>[]
def boxW:List Ent→List Loc
 | []=>[]
 | (t,.box _ cs)::es=>(List.range cs.length).map (Loc.cell t)++boxW es
 | _::es=>boxW es
theorem boxW_mem:∀ {es:List Ent} {t:Nat} {T:TypeId} {cs:List AV} {i:Nat},(t,AV.box T cs)∈es→i<cs.length→Loc.cell t i∈boxW es
 | [],_,_,_,_,h,_=>by cases h
 | (s,av)::es,t,T,cs,i,h,hi=>by
  rcases List.mem_cons.1 h with h | h
  ·cases h
   simp only [boxW,List.mem_append,List.mem_map,List.mem_range]
   exact .inl ⟨i,hi,rfl⟩
  ·have ih:=boxW_mem h hi
   cases av <;> simp only [boxW,List.mem_append] <;> first | exact ih | exact .inr ih
theorem zipP_Es {g:Gh} {V V':Loc→Value} {w:World}:∀ {T:List Ent} {ps:List AV} {o:List Nat},ps.length≤T.length→Rs g V' w ps ((T.map fun e=>V' (.slot e.1)).take ps.length) o →
  (∀ t T' cs,(t,AV.box T' cs)∈zipP T ps→∀ b xs,V' (.slot t) = .pointer (some ⟨b,0,none⟩)→w.heap[b]? = some (.cells xs T' (0,0))→xs.size=cs.length→∀ i,i<cs.length→w.cell? ⟨b,i,none⟩=some (V' (.cell t i)))→Es g V' w (zipP T ps) o
 | [],ps,o,hl,h,_=>by
  cases ps with
  | nil=>exact h.2
  | cons p ps=>simp at hl
 | e::T,[],o,hl,h,_=>by simp only [List.length_nil,List.take_zero,Rs] at h; exact h.2
 | e::T,p::ps,o,hl,h,ht=>by
  simp only [List.map_cons,List.length_cons,List.take_succ_cons,Rs] at h
  obtain ⟨x,xs',o1,o2,he,rfl,h1,h2⟩:=h
  obtain ⟨rfl,rfl⟩:=List.cons.inj he
  refine ⟨o1,o2,rfl,⟨h1,?_⟩,zipP_Es (V:=V) (by simpa using hl) h2 fun t T' cs hm=>ht t T' cs (by simp [zipP,hm])⟩
  cases p <;> try trivial
  case box T' cs =>
   intro b hb i hi
   dsimp only at hb hi ⊢
   simp only [R] at h1
   obtain ⟨b',ys,os,hx,_,hh,hrs⟩:=h1
   rw [hb] at hx; cases hx
   exact ht e.1 T' cs (by simp [zipP]) b _ hb hh (by simpa using Rs_length hrs) i hi
theorem op_nilCheck (N:List Ent) (d:Nat) (x:Operand) (t off:Nat) (h:dupOp N x = .ptr t off) (hdt:d≠t) :
  LOp P ⟨some d,.nilCheck x,ty,pos,aft,gd⟩ N [] [(d,.ptr t off)] [.slot d]:=by
 refine LOp.value rfl (by simp [clr,hit,hdt]) rfl fun g V oN a w hp => ?_
 have hR:=dupOp_R hp.val hp.esN x
 rw [h] at hR
 simp only [R] at hR
 obtain ⟨b,h1,h2,_⟩:=hR
 refine ⟨a.eval x,?_,by simp only [R]; exact ⟨b,h1,h2,trivial⟩⟩
 simp [execOp,h2]
theorem Rs_parts {g:Gh} {V:Loc→Value} {w:World}:∀ {cs:List AV} {xs:List Value} {o:List Nat} (i:Nat),Rs g V w cs xs o→i<cs.length →
  ∃ oa o1 ob,o=oa++(o1++ob)∧Rs g V w (cs.take i) (xs.take i) oa∧R g V w (cs.getD i .any) (xs.getD i undef) o1∧Rs g V w (cs.drop (i+1)) (xs.drop (i+1)) ob
 | [],_,_,i,_,hi=>by simp at hi
 | c::cs,xs,o,i,h,hi=>by
  simp only [Rs] at h
  obtain ⟨x,xs',o1,o2,rfl,rfl,h1,h2⟩:=h
  cases i with
  | zero=>exact ⟨[],o1,o2,rfl,⟨rfl,rfl⟩,by simpa using h1,by simpa using h2⟩
  | succ i =>
   obtain ⟨oa,o3,ob,rfl,h3,h4,h5⟩:=Rs_parts i h2 (by simpa using hi)
   refine ⟨o1++oa,o3,ob,by simp,?_,by simpa using h4,by simpa using h5⟩
   simp only [List.take_succ_cons,Rs]
   exact ⟨x,_,o1,oa,rfl,rfl,h1,h3⟩
theorem Rs_join {g:Gh} {V:Loc→Value} {w:World} {cs:List AV} {xs:List Value} {oa o1 ob:List Nat} {av:AV} (i:Nat) (hi:i<cs.length) (hl:xs.length=cs.length)
  (h1:Rs g V w (cs.take i) (xs.take i) oa) (h2:R g V w av (xs.getD i undef) o1) (h3:Rs g V w (cs.drop (i+1)) (xs.drop (i+1)) ob):Rs g V w (cs.set i av) xs (oa++(o1++ob)):=by
 rw [List.set_eq_take_append_cons_drop,if_pos hi]
 refine Rs_append.2 ⟨xs.take i,xs.getD i undef::xs.drop (i+1),oa,o1++ob,?_,rfl,h1,?_⟩
 ·have:xs.getD i undef=xs[i]'(by omega):=by simp [List.getD,show i<xs.length by omega]
  rw [this,List.getElem_cons_drop,List.take_append_drop]
 ·simp only [Rs]; exact ⟨_,_,o1,ob,rfl,rfl,h2,h3⟩
end
end Go.Abs
end
section
/-
 Rows whose cells are rows in their turn,not written any more.
-/
namespace Go.Abs
theorem RIs_vals {g:Gh} {w:World} {s:Bool}:∀ {vs xs:List Value},RIs g w s (vs.map IC.v) xs↔xs=vs
 | [],xs=>by simp [RIs]
 | v::vs,xs=>by
  simp only [List.map_cons,RIs,RI]
  constructor
  ·rintro ⟨x,xs',rfl,rfl,h⟩; rw [RIs_vals.1 h]
  ·rintro rfl; exact ⟨v,vs,rfl,rfl,RIs_vals.2 rfl⟩
theorem RIs_length {g:Gh} {w:World} {s:Bool}:∀ {cs:List IC} {xs:List Value},RIs g w s cs xs→xs.length=cs.length
 | [],xs,h=>by simp only [RIs] at h; simp [h]
 | c::cs,xs,h=>by
  simp only [RIs] at h
  obtain ⟨x,xs',rfl,_,h⟩:=h
  simp [RIs_length h]
theorem RIs_append {g:Gh} {w:World} {s:Bool}:∀ {cs ds:List IC} {xs ys:List Value},RIs g w s cs xs→RIs g w s ds ys→RIs g w s (cs++ds) (xs++ys)
 | [],ds,xs,ys,h,h2=>by simp only [RIs] at h; subst h; exact h2
 | c::cs,ds,xs,ys,h,h2=>by
  simp only [RIs] at h
  obtain ⟨x,xs',rfl,h1,h⟩:=h
  simp only [List.cons_append,RIs]
  exact ⟨x,_,rfl,h1,RIs_append h h2⟩
theorem RIs_drop {g:Gh} {w:World} {s:Bool}:∀ (k:Nat) {cs:List IC} {xs:List Value},RIs g w s cs xs→RIs g w s (cs.drop k) (xs.drop k)
 | 0,_,_,h=>h
 | k+1,[],xs,h=>by simp only [RIs] at h; subst h; simp [RIs]
 | k+1,c::cs,xs,h=>by
  simp only [RIs] at h
  obtain ⟨x,xs',rfl,_,h⟩:=h
  exact RIs_drop k h
theorem RIs_take {g:Gh} {w:World} {s:Bool}:∀ (k:Nat) {cs:List IC} {xs:List Value},RIs g w s cs xs→RIs g w s (cs.take k) (xs.take k)
 | 0,_,_,_=>by simp [RIs]
 | k+1,[],xs,h=>by simp only [RIs] at h; subst h; simp [RIs]
 | k+1,c::cs,xs,h=>by
  simp only [RIs] at h
  obtain ⟨x,xs',rfl,h1,h⟩:=h
  simp only [List.take_succ_cons,RIs]
  exact ⟨x,_,rfl,h1,RIs_take k h⟩
theorem RIs_weak {g:Gh} {w:World} {s s':Bool} (h:s=true→s'=true) {cs:List IC} {xs:List Value} (hr:RIs g w s cs xs):RIs g w s' cs xs :=
 RIs_stab (fun b hb=>by
  cases s with
  | true=>rw [h rfl]; exact hb
  | false=>cases s' with
   | true=>exact .inl hb
   | false=>exact hb) (fun _ _=>rfl) cs xs hr
def mdS:Bool→Md
 | true => .shr
 | false => .ro
inductive IA (s:Bool):IC→AV→Prop
 | v (x:Value):IA s (.v x) (.v x)
 | fl (z:Nat) (xs:List Value) {cs:List IC} (h:cs=xs.map IC.v):IA s (.row z cs) (.fl (mdS s) z xs)
 | fr (z:Nat) (cs:List IC):IA s (.row z cs) (.fr (mdS s) s z cs)
inductive IAs (s:Bool):List IC→List AV→Prop
 | nil:IAs s [] []
 | cons {c:IC} {av:AV} {cs:List IC} {avs:List AV} (h:IA s c av) (hs:IAs s cs avs):IAs s (c::cs) (av::avs)
theorem modeOk_mdS {g:Gh} {w:World} {s:Bool} {z n:Nat} {x:Value} {a:Option Addr} {vs:List Value} (h:vs≠[]→∃ ad,a=some ad∧immB g s ad.block):modeOk g w (mdS s) z x n a vs []:=by
 cases s
 ·exact ⟨rfl,h⟩
 ·exact ⟨rfl,h⟩
theorem IA_R {g:Gh} {V:Loc→Value} {w:World} {s:Bool} {c:IC} {av:AV} {x:Value} (h:IA s c av) (hr:RI g w s c x):R g V w av x []:=by
 cases h with
 | v y=>simp only [RI] at hr; simp [R,hr]
 | fl z xs h =>
  subst h
  simp only [RI] at hr
  obtain ⟨vs,a,n,c,h1,h2,h3,h4,h5,h6⟩:=hr
  obtain rfl:=RIs_vals.1 h6
  simp only [R]
  exact ⟨a,n,c,h1,h2,h3,h4,modeOk_mdS h5⟩
 | fr z cs =>
  simp only [RI] at hr
  obtain ⟨vs,a,n,c,h1,h2,h3,h4,h5,h6⟩:=hr
  simp only [R]
  exact ⟨vs,a,n,c,h1,h2,h3,h4,modeOk_mdS h5,h6⟩
theorem IAs_R {g:Gh} {V:Loc→Value} {w:World} {s:Bool} {cs:List IC} {avs:List AV} (h:IAs s cs avs):∀ {xs:List Value},RIs g w s cs xs→Rs g V w avs xs []:=by
 induction h with
 | nil=>intro xs h; simp only [RIs] at h; simp [Rs,h]
 | cons h hs ih =>
  intro xs hr
  simp only [RIs] at hr
  obtain ⟨x,xs',rfl,h1,h2⟩:=hr
  simp only [Rs]
  exact ⟨x,xs',[],[],rfl,rfl,IA_R h h1,ih h2⟩
theorem IA_clr {s:Bool} {c:IC} {av:AV} (h:IA s c av) (W:List Loc):clr W av=true∧noBox av=true:=by
 cases h <;> exact ⟨rfl,rfl⟩
theorem IAs_clr {s:Bool} {cs:List IC} {avs:List AV} (h:IAs s cs avs) (W:List Loc):clrs W avs=true:=by
 induction h with
 | nil=>rfl
 | cons h _ ih=>simp [clrs,ih,(IA_clr h W).1]
inductive AI (s:Bool):AV→IC→Prop
 | v (x:Value):AI s (.v x) (.v x)
 | ro (z:Nat) (xs:List Value) {cs:List IC} (h:cs=xs.map IC.v):AI s (.fl .ro z xs) (.row z cs)
 | shr (z:Nat) (xs:List Value) {cs:List IC} (hs:s=true) (h:cs=xs.map IC.v):AI s (.fl .shr z xs) (.row z cs)
 | fro (z:Nat) (cs:List IC):AI s (.fr .ro false z cs) (.row z cs)
 | fsh (m:Md) (s':Bool) (z:Nat) (cs:List IC) (hm:notOwn m=true) (hs:s=true):AI s (.fr m s' z cs) (.row z cs)
 | nil (z:Nat):AI s (.v (.slice none 0 0)) (.row z [])
inductive AIs (s:Bool):List AV→List IC→Prop
 | nil:AIs s [] []
 | cons {c:IC} {av:AV} {cs:List IC} {avs:List AV} (h:AI s av c) (hs:AIs s avs cs):AIs s (av::avs) (c::cs)
theorem AI_R {g:Gh} {V:Loc→Value} {w:World} {s:Bool} {c:IC} {av:AV} {x:Value} {o:List Nat} (h:AI s av c) (hr:R g V w av x o):RI g w s c x:=by
 cases h with
 | v y=>simp only [R] at hr; simp [RI,hr.1]
 | ro z xs h =>
  subst h
  simp only [R,modeOk] at hr
  obtain ⟨a,n,c,h1,h2,h3,h4,_,h5⟩:=hr
  simp only [RI]
  exact ⟨xs,a,n,c,h1,h2,h3,h4,fun hne=>let ⟨ad,e,hi⟩:=h5 hne; ⟨ad,e,by cases s <;> first | exact hi | exact .inl hi⟩,RIs_vals.2 rfl⟩
 | shr z xs hs h =>
  subst h; subst hs
  simp only [R,modeOk] at hr
  obtain ⟨a,n,c,h1,h2,h3,h4,_,h5⟩:=hr
  simp only [RI]
  exact ⟨xs,a,n,c,h1,h2,h3,h4,h5,RIs_vals.2 rfl⟩
 | fro z cs =>
  simp only [R,modeOk] at hr
  obtain ⟨vs,a,n,c,h1,h2,h3,h4,⟨_,h5⟩,h6⟩:=hr
  simp only [RI]
  exact ⟨vs,a,n,c,h1,h2,h3,h4,fun hne=>let ⟨ad,e,hi⟩:=h5 hne; ⟨ad,e,by cases s <;> first | exact hi | exact .inl hi⟩,RIs_weak (by simp) h6⟩
 | fsh m s' z cs hm hs =>
  subst hs
  simp only [R] at hr
  obtain ⟨vs,a,n,c,h1,h2,h3,h4,h5,h6⟩:=hr
  simp only [RI]
  refine ⟨vs,a,n,c,h1,h2,h3,h4,fun hne => ?_,RIs_weak (fun _=>rfl) h6⟩
  cases m with
  | own T=>cases hm
  | ro=>obtain ⟨ad,e,hi⟩:=h5.2 hne; exact ⟨ad,e,.inl hi⟩
  | shr=>exact h5.2 hne
 | nil z =>
  simp only [R] at hr
  simp only [RI]
  exact ⟨[],none,0,0,⟨hr.1,Nat.le_refl _⟩,by simp,by simp,fun h=>absurd rfl h,fun h=>absurd rfl h,by simp [RIs]⟩
theorem AIs_R {g:Gh} {V:Loc→Value} {w:World} {s:Bool} {cs:List IC} {avs:List AV} (h:AIs s avs cs):∀ {xs:List Value} {o:List Nat},Rs g V w avs xs o→RIs g w s cs xs:=by
 induction h with
 | nil=>intro xs o h; simp only [Rs] at h; simp [RIs,h.1]
 | cons h hs ih =>
  intro xs o hr
  simp only [Rs] at hr
  obtain ⟨x,xs',o1,o2,rfl,rfl,h1,h2⟩:=hr
  simp only [RIs]
  exact ⟨x,xs',rfl,AI_R h h1,ih h2⟩
theorem fr_fl {g:Gh} {V:Loc→Value} {w:World} {m:Md} {s:Bool} {z:Nat} {cs:List IC} {x:Value} {o:List Nat} (h:R g V w (.fr m s z cs) x o) :
  ∃ vs,R g V w (.fl m z vs) x o∧RIs g w s cs vs:=by
 simp only [R] at *
 obtain ⟨vs,a,n,c,h1,h2,h3,h4,h5,h6⟩:=h
 exact ⟨vs,⟨a,n,c,h1,h2,h3,h4,h5⟩,h6⟩
theorem fl_fr {g:Gh} {V:Loc→Value} {w:World} {m:Md} {s:Bool} {z:Nat} {cs:List IC} {vs:List Value} {x:Value} {o:List Nat} (h:R g V w (.fl m z vs) x o) (h2:RIs g w s cs vs) :
  R g V w (.fr m s z cs) x o:=by
 simp only [R] at *
 obtain ⟨a,n,c,h1,h2',h3,h4,h5⟩:=h
 exact ⟨vs,a,n,c,h1,h2',h3,h4,h5,h2⟩
theorem sub_nil_fr (E:TypeId) (s:Bool) (z:Nat):Sub (.v (.slice none 0 0)) (.fr (.own E) s z []):=fun g V w x o h =>
 fl_fr (vs:=[]) (sub_nil E z g V w x o h) (by simp [RIs])
section
variable {P:Program} {ty:TypeId} {pos:String} {aft:Array Edge} {gd:Option (Nat×Bool)}
theorem op_len_fr (N:List Ent) (d:Nat) {t t' e:TypeId} {x:Operand} {m:Md} {s:Bool} {z:Nat} {cs:List IC} (n:Nat) (hT:P.underlying t=some (.slice e)) (hx:rd N x = .fr m s z cs) (hz:0<z) (hn:cs.length=n * z) :
  LOp P ⟨some d,.call ⟨.builtin .len,#[x],#[t]⟩,t',pos,aft,gd⟩ N [] [(d,.v (.int .i64 (n:Int)))] [.slot d]:=by
 refine LOp.v rfl fun g V oN ac w hp => ?_
 obtain ⟨o',_,hr⟩:=rd_R hp.val hp.esN x
 rw [hx] at hr
 obtain ⟨vs,hr,hi⟩:=fr_fl hr
 have hvl:=RIs_length hi
 simp only [R] at hr
 obtain ⟨a,n',c,⟨he,_⟩,hl,_⟩:=hr
 have:n'=n:=Nat.eq_of_mul_eq_mul_right hz (by omega)
 subst this
 simp [execOp,resolve,invoke,builtin,Builtin.len_,he,run_underlying hT,goInt]
theorem op_ix_fr (N:List Ent) (d:Nat) {T e:TypeId} (x:Nat) (y:Operand) {kd:IntKind} {m:Md} {s:Bool} {cs:List IC} (nn:Int) (i z:Nat) (l:Loc) (hT:P.underlying T=some (.slice e)) (hz:(P.info? e).map (·.size)=some z) (h0:0<z)
  (hx:rd N (.tmp x) = .fr m s z cs) (hl:locOf N (.tmp x)=l) (hy:rd N y = .v (.int kd nn)) (hnn:nn=(i:Int)) (hi:i * z+z≤cs.length) (hd:hit [.slot d] l=false) :
  LOp P ⟨some d,.indexAddr T (.tmp x) y,ty,pos,aft,gd⟩ N [] [(d,.eref l (i * z))] [.slot d]:=by
 subst hnn
 refine LOp.value rfl (by simp [clr,hd]) rfl fun g V oN a w hp => ?_
 obtain ⟨o',_,hR⟩:=rd_R hp.val hp.esN (.tmp x)
 rw [hx] at hR
 obtain ⟨xs,hR,hic⟩:=fr_fl hR
 rw [← RIs_length hic] at hi
 simp only [R] at hR
 obtain ⟨ad,n,c,⟨he,_⟩,hlen,_,hrd,_⟩:=hR
 have hne:xs≠[]:=fun e=>by subst e; simp at hi; omega
 obtain ⟨A,rfl,_⟩:=hrd hne
 have hin:i<n:=by
  rw [hlen] at hi
  have:(i+1) * z≤n * z:=by rw [Nat.add_mul]; omega
  exact Nat.lt_of_succ_le (Nat.le_of_mul_le_mul_right this h0)
 have h3:=rd_v hp.val hp.esN hy
 have hV:V l = .slice (some A) n c:=by
  rw [← hl,← he]
  simp only [locOf]
  obtain ⟨o2,_,h2⟩:=opv_R hp.val hp.esN (.tmp x)
  simp only [opv] at h2
  cases hlk:look N x with
  | same l'=>rw [hlk] at h2; simp only [R] at h2; exact h2.1.symm
  | _=>simp only [hp.val,Act.eval]
 refine ⟨.pointer (some (A.add (i * z))),?_,by simp only [R]; exact ⟨A,n,c,hV,rfl,trivial⟩⟩
 simp [execOp,Instr.indexAt,Sem.run_bind,run_underlying hT,he,h3,asIntOf,run_sizeOf' hz,hin]
theorem op_loadA_fr (N:List Ent) (d:Nat) {T:TypeId} {td:TypeDesc} (x:Operand) {m:Md} {s:Bool} {z:Nat} {cs:List IC} (l:Loc) (k sz:Nat) (ics:List IC) (avs:List AV) (hT:P.underlying T=some td) (ha:isAggD td=true) (hs:(P.info? T).map (·.size)=some sz)
  (hx:dupOp N x = .eref l k) (hl:locv N l = .fr m s z cs) (hv:(cs.drop k).take sz=ics) (hia:IAs s ics avs) (hlen:ics.length=sz) (h0:0<sz) :
  LOp P ⟨some d,.load T x,ty,pos,aft,gd⟩ N [] [(d,.agg avs)] [.slot d]:=by
 refine LOp.value rfl (by simp only [clr]; exact IAs_clr hia _) rfl fun g V oN a w hp => ?_
 have hR:=dupOp_R hp.val hp.esN x
 rw [hx] at hR
 simp only [R] at hR
 obtain ⟨ad,n,c,h1,h2,_⟩:=hR
 obtain ⟨o',_,h3⟩:=locv_R hp.esN l
 rw [hl] at h3
 obtain ⟨xs,h3,hic⟩:=fr_fl h3
 have hvs:=RIs_take sz (RIs_drop k hic)
 rw [hv] at hvs
 have hvl:=RIs_length hvs
 simp only [R] at h3
 obtain ⟨A,n',c',⟨h4,_⟩,_,_,hrd,_⟩:=h3
 rw [h1] at h4; cases h4
 obtain ⟨ad',e,hc⟩:=hrd (fun e=>by subst e; simp at hvl; omega)
 cases e
 generalize hvse:(xs.drop k).take sz=vs at *
 refine ⟨.agg vs.toArray,?_,by simp only [R]; exact ⟨vs,rfl,IAs_R hia hvs⟩⟩
 have hload:=run_loadA (P:=P) (w:=w) (a:=ad.add k) (xs:=vs) hT ha hs (by omega) (fun j v hj=>by
  rw [add_add]
  refine hc (k+j) v ?_
  rw [← hvse] at hj
  simp only [List.getElem?_take,List.getElem?_drop] at hj
  split at hj
  ·exact hj
  ·cases hj)
 simp [execOp,Instr.loadAt,h2,Instr.sureAddr,hload]
theorem op_build1_fr (N:List Ent) (d:Nat) {T e:TypeId} (x:Operand) (z:Nat) (zv:Value) (s:Bool) (av:AV) (ics:List IC) (hT:P.underlying T=some (.slice e)) (hz:(P.info? e).map (·.size)=some z)
  (hzv:(P.info? e).bind (·.zero)=some zv) (h:dupOp N x=av) (hok:cellsOk N av=true) (hai:AIs s (vcells av) ics) (hl:ics.length=z) (h0:0<z) (hsm:z≤16777216) :
  LOp P ⟨some d,.buildSlice T 1 #[(0,x)],ty,pos,aft,gd⟩ N [] [(d,.fr (.own e) s z ics)] [.slot d]:=by
 refine LOp.fresh rfl rfl fun g V oN a w hp => ?_
 have hR:=dupOp_R hp.val hp.esN x
 rw [h] at hR
 obtain ⟨h1,hone⟩:=vcells_R hp.esN hok hR
 have hri:=AIs_R hai h1
 have hcl:(a.eval x).cells.toList.length=z:=by rw [RIs_length hri,hl]
 have hcs:(a.eval x).cells.size=z:=by simpa using hcl
 have hfill:Instr.fill (fun i=>some (i * z,z)) ((Array.range (1 * z)).map (zv.cells[· % zv.cells.size]!)) [(0,a.eval x)]=some (a.eval x).cells:=by
  have hno:¬ ((a.eval x).cells.size≠z∨0 * z+(a.eval x).cells.size > ((Array.range (1 * z)).map (zv.cells[· % zv.cells.size]!)).size):=by
   rw [Array.size_map,Array.size_range,hcs]; omega
  unfold Instr.fill
  simp only []
  rw [if_neg (by rw [Bool.or_eq_true,decide_eq_true_iff,decide_eq_true_iff]; exact hno)]
  unfold Instr.fill
  congr 1
  have:=fold_splice (a.eval x).cells.toList (0 * z) ((Array.range (1 * z)).map (zv.cells[· % zv.cells.size]!)) 0 (by simp [hcs])
  apply Array.toList_inj.1
  rw [← Array.foldl_toList,Array.toList_zipIdx]
  refine Eq.trans ?_ (this.trans ?_)
  ·rfl
  ·simp only [Nat.zero_mul,Nat.zero_add,List.take_zero,List.nil_append]
   rw [List.drop_eq_nil_of_le (by simp [hcs]),List.append_nil]
 have hr:(execOp a.eval ⟨some d,.buildSlice T 1 #[(0,x)],ty,pos,aft,gd⟩).run P w = .ok (.value (.slice (some ⟨w.heap.size,0,none⟩) 1 1)) (w.alloc (.cells (a.eval x).cells e)):=by
  have hbig:¬ 1 * z > 2 ^ 24:=by omega
  have hnz:¬ 1 * z=0:=by omega
  simp only [execOp,Instr.buildSlice,Sem.run_bind,run_underlying hT,Result.andThen_ok,run_sizeOf' hz,hbig,if_false,hnz,run_zero hzv]
  have e1:((#[(0,x)]:Array (Nat×Operand)).map fun (i,x)=>(i,a.eval x)).toList=[(0,a.eval x)]:=by simp
  simp only [Sem.run_pure,Result.andThen_ok]
  rw [e1,hfill]
  simp [newRow,newObj]
  rfl
 have hown:=World.ownsRow_lit (base:=0) (e:=e) (size:=z) w (a.eval x).cells 1 (Nat.zero_le _) (by simp only [maxLen]; omega) (by omega)
 refine (Yl.val hr).mono ?_
 rintro v w2 ⟨rfl,rfl⟩
 refine ⟨Chg.alloc _ _ _,g,[w.heap.size],g.le_refl,fun b hb => .inl hb,fl_fr (own_fl hown hone) (RIs_stab (fun b h=>h) (fun b hb=>heap_alloc_old w _ b (hp.imm b hb)) ics _ hri),by simp,?_⟩
 intro b hb
 simp at hb; subst hb
 exact ⟨Nat.le_refl _,by simp,fun hi=>Nat.lt_irrefl _ (hp.imm _ (.inl hi))⟩
theorem op_build1_fr_take (N:List Ent) (d t:Nat) {T e:TypeId} (z:Nat) (zv:Value) (s:Bool) (av:AV) (ics:List IC) (hT:P.underlying T=some (.slice e)) (hz:(P.info? e).map (·.size)=some z)
  (hzv:(P.info? e).bind (·.zero)=some zv) (hok:cellsOk [] (frz av)=true) (hai:AIs s (vcells (frz av)) ics) (hl:ics.length=z) (h0:0<z) (hsm:z≤16777216) :
  LOp P ⟨some d,.buildSlice T 1 #[(0,.tmp t)],ty,pos,aft,gd⟩ N [(t,av)] [(d,.fr (.own e) s z ics)] [.slot d]:=by
 refine LOp.core fun g V oN oT a w hd hp => ?_
 have hT':=hp.esT
 simp only [Es] at hT'
 obtain ⟨ot,o2',rfl,⟨hR0,_⟩,rfl⟩:=hT'
 have he:a.eval (.tmp t)=V (.slot t):=by rw [hp.val]; rfl
 obtain ⟨o',o2,hperm,hfr⟩:=R_frz av _ ot hR0
 let g':Gh:={ g with Imm:=fun b=>g.Imm b∨b∈o2 }
 have ho2:∀ b∈o2,b∈ot:=fun b hb=>hperm.mem_iff.2 (by simp [hb])
 have hR:=hfr g' (fun b hb => .inl hb) (fun b hb=>hb) (fun b hb => .inr hb)
 rw [← he] at hR
 obtain ⟨h1,hone⟩:=vcells_R (NT:=[]) (oNT:=[]) (g:=g') (V:=V) (w:=w) rfl hok hR
 have hri:=AIs_R hai h1
 have hcl:(a.eval (.tmp t)).cells.toList.length=z:=by rw [RIs_length hri,hl]
 have hcs:(a.eval (.tmp t)).cells.size=z:=by simpa using hcl
 have hfill:Instr.fill (fun i=>some (i * z,z)) ((Array.range (1 * z)).map (zv.cells[· % zv.cells.size]!)) [(0,a.eval (.tmp t))]=some (a.eval (.tmp t)).cells:=by
  have hno:¬ ((a.eval (.tmp t)).cells.size≠z∨0 * z+(a.eval (.tmp t)).cells.size > ((Array.range (1 * z)).map (zv.cells[· % zv.cells.size]!)).size):=by
   rw [Array.size_map,Array.size_range,hcs]; omega
  unfold Instr.fill
  simp only []
  rw [if_neg (by rw [Bool.or_eq_true,decide_eq_true_iff,decide_eq_true_iff]; exact hno)]
  unfold Instr.fill
  congr 1
  have:=fold_splice (a.eval (.tmp t)).cells.toList (0 * z) ((Array.range (1 * z)).map (zv.cells[· % zv.cells.size]!)) 0 (by simp [hcs])
  apply Array.toList_inj.1
  rw [← Array.foldl_toList,Array.toList_zipIdx]
  refine Eq.trans ?_ (this.trans ?_)
  ·rfl
  ·simp only [Nat.zero_mul,Nat.zero_add,List.take_zero,List.nil_append]
   rw [List.drop_eq_nil_of_le (by simp [hcs]),List.append_nil]
 have hr:(execOp a.eval ⟨some d,.buildSlice T 1 #[(0,.tmp t)],ty,pos,aft,gd⟩).run P w = .ok (.value (.slice (some ⟨w.heap.size,0,none⟩) 1 1)) (w.alloc (.cells (a.eval (.tmp t)).cells e)):=by
  have hbig:¬ 1 * z > 2 ^ 24:=by omega
  have hnz:¬ 1 * z=0:=by omega
  simp only [execOp,Instr.buildSlice,Sem.run_bind,run_underlying hT,Result.andThen_ok,run_sizeOf' hz,hbig,if_false,hnz,run_zero hzv]
  have e1:((#[(0,.tmp t)]:Array (Nat×Operand)).map fun (i,x)=>(i,a.eval x)).toList=[(0,a.eval (.tmp t))]:=by simp
  simp only [Sem.run_pure,Result.andThen_ok]
  rw [e1,hfill]
  simp [newRow,newObj]
  rfl
 have hown:=World.ownsRow_lit (base:=0) (e:=e) (size:=z) w (a.eval (.tmp t)).cells 1 (Nat.zero_le _) (by simp only [maxLen]; omega) (by omega)
 refine (Yl.val hr).mono ?_
 rintro v w2 ⟨rfl,rfl⟩
 have hlt:d<g.n:=hd d rfl
 have hot:∀ b∈ot,b<w.heap.size∧¬ g.imm b:=fun b hb=>hp.own b (by simp [hb])
 have himm':∀ b,g'.imm b→b<w.heap.size:=by
  rintro b ((hb | hb) | hb)
  ·exact hp.imm b (.inl hb)
  ·exact (hot b (ho2 b hb)).1
  ·exact hp.imm b (.inr hb)
 refine ⟨g',setV V d _,[w.heap.size],⟨rfl,rfl,rfl,rfl,rfl,fun b hb => .inl hb,fun b hb=>hb.imp id fun h=>hp.own2 b (by simp [ho2 b h])⟩,fun b hb => ?_,fun b hb => ?_,(Chg.alloc _ _ _),fun l hl=>setV_hit hl,fun u=>setV_val hp.val hp.size hlt u,?_,by simp,?_⟩
 ·exact hb.imp id fun h => .inl (by simpa using ho2 b h)
 ·exact Nat.lt_of_lt_of_le (himm' b (.inl hb)) (Chg.alloc [] w _).size
 ·refine ⟨[w.heap.size],[],by simp,⟨?_,trivial⟩,rfl⟩
  show R g' _ _ _ (setV V d _ (.slot d)) _
  rw [setV_slot]
  exact fl_fr (own_fl hown hone) (RIs_stab (fun b h=>h) (fun b hb=>heap_alloc_old w _ b (himm' b hb)) ics _ hri)
 ·intro b hb
  simp at hb; subst hb
  exact ⟨.inr (Nat.le_refl _),by simp,fun hi=>Nat.lt_irrefl _ (himm' _ hi)⟩
theorem op_app_fr {A:Type} (N:List Ent) (d t:Nat) {T e t':TypeId} (x y:Operand) {z by_:Nat} {my:Md} {s s1 s2:Bool} {xs ys zs:List IC} {l m q:List A} (hE:ElemT P T e z by_) (hx:dupOp (N++[(t,.fr (.own e) s1 z xs)]) x = .same (.slot t)) (hy:rd N y = .fr my s2 z ys)
  (hn:xs.length=l.length * z) (hm:ys.length=m.length * z) (hq:appO by_ l m=some q) (hz:xs++ys=zs) (hs1:s1=true→s=true) (hs2:s2=true→s=true) :
  LOp P ⟨some d,.call ⟨.builtin .append,#[x,y],#[T,T]⟩,t',pos,aft,gd⟩ N [(t,.fr (.own e) s1 z xs)] [(t,.any),(d,.fr (.own e) s z zs)] [.slot d]:=by
 subst hz
 unfold appO at hq
 split at hq
 case isFalse=>cases hq
 rename_i hlim
 obtain ⟨i,zv,hT,hi,hz,hs,hzc,h0,rfl⟩:=hE.ex
 refine LOp.core fun g V oN oT a w hd hp => ?_
 have hT':=hp.esT
 simp only [Es] at hT'
 obtain ⟨ob,o2,rfl,⟨hR,_⟩,rfl⟩:=hT'
 have hax:=dupOp_R hp.val (Es_append.2 ⟨oN,_,rfl,hp.esN,hp.esT⟩) x
 rw [hx] at hax
 obtain ⟨us,hR,hix⟩:=fr_fl hR
 rw [← RIs_length hix] at hn
 simp only [R] at hax hR
 obtain ⟨a0,n0,c0,⟨h3,_⟩,hl0,hone0,_,hown,hob⟩:=hR
 obtain ⟨o',_,hr⟩:=rd_R hp.val hp.esN y
 rw [hy] at hr
 obtain ⟨vs,hr,hiy⟩:=fr_fl hr
 rw [← RIs_length hiy] at hm
 simp only [R] at hr
 obtain ⟨A,m',c,⟨he,_⟩,hl,hone,hrd,_⟩:=hr
 have em:m'=m.length:=Nat.eq_of_mul_eq_mul_right h0 (by omega)
 subst em
 have en:n0=l.length:=Nat.eq_of_mul_eq_mul_right h0 (by omega)
 subst en
 obtain ⟨v',w',hrun,hown',hg,hblk⟩:=run_append_fl (P:=P) (ty:=t') (c:=c) hT hi hz hs hzc h0 hown hl hrd hone (by simp only [maxLen]; omega) (by simpa using hlim.1)
 have hrun':(execOp a.eval ⟨some d,.call ⟨.builtin .append,#[x,y],#[T,T]⟩,t',pos,aft,gd⟩).run P w = .ok (.value v') w':=by
  have h4:a.eval x=V (.slot t):=hax.1
  simp [execOp,resolve,invoke,builtin,he,h4,hrun]
 refine (Yl.val hrun').mono ?_
 rintro v w2 ⟨rfl,rfl⟩
 have hlt:d<g.n:=hd d rfl
 have hchg:Chg ob w w2:=by rw [hob]; exact Chg.of_grown hg
 have himm:∀ b,g.imm b→w2.heap[b]? = w.heap[b]? := fun b hb=>hchg.block b (hp.imm b hb) fun hb'=>(hp.own b (by simp [hb'])).2 hb
 refine ⟨g,setV V d v,v.ownBlock.toList,g.le_refl,fun b hb => .inl hb,fun b hb=>Nat.lt_of_lt_of_le (hp.imm b (.inl hb)) hchg.size,by simpa using hchg,fun l hl=>setV_hit hl,fun u=>setV_val hp.val hp.size hlt u,?_,by cases v.ownBlock <;> simp,?_⟩
 ·refine ⟨[],v.ownBlock.toList,rfl,⟨by simp [R],trivial⟩,v.ownBlock.toList,[],by simp,⟨?_,trivial⟩,rfl⟩
  show R g _ _ _ (setV V d v (.slot d)) _
  rw [setV_slot]
  refine fl_fr (own_fl hown' fun u hu => ?_) (RIs_stab (fun b h=>h) himm _ _ (RIs_append (RIs_weak hs1 hix) (RIs_weak hs2 hiy)))
  rcases List.mem_append.1 hu with h | h
  ·exact hone0 u h
  ·exact hone u h
 ·intro b hb'
  have hvb:v.ownBlock=some b:=by cases hv:v.ownBlock <;> simp [hv] at hb' ⊢; exact hb'.symm
  have hlt2:=(hown'.lt b hvb).2
  rcases hblk with h | h
  ·have hin:b∈ob:=by rw [hob,← h,hvb]; simp
   exact ⟨.inl (by simp [hin]),hlt2,(hp.own b (by simp [hin])).2⟩
  ·rw [hvb] at h
   cases h
   refine ⟨.inr (Nat.le_refl _),hlt2,fun hi=>Nat.lt_irrefl _ (hp.imm _ hi)⟩
theorem op_slice_fr (N:List Ent) (d:Nat) {T e:TypeId} {x:Operand} {lo hi:Option Operand} {m:Md} {s:Bool} {z:Nat} {cs:List IC} (l h:Nat) (ds:List IC) (hT:P.underlying T=some (.slice e)) (hz:(P.info? e).map (·.size)=some z) (h0:0<z)
  (hx:rd N x = .fr m s z cs) (hm:notOwn m=true)
  (hl:match lo with | some y=>∃ k,rd N y = .v (.int k (l:Int)) | none=>l=0) (hh:match hi with | some y=>∃ k,rd N y = .v (.int k (h:Int)) | none=>h * z=cs.length) (h1:l≤h) (h2:h * z≤cs.length) (hds:(cs.drop (l * z)).take ((h-l) * z)=ds) :
  LOp P ⟨some d,.slice T x lo hi none,ty,pos,aft,gd⟩ N [] [(d,.fr m s z ds)] [.slot d]:=by
 refine LOp.value rfl rfl rfl fun g V oN a w hp => ?_
 obtain ⟨o',_,hr⟩:=rd_R hp.val hp.esN x
 rw [hx] at hr
 obtain ⟨xs,hr,hic⟩:=fr_fl hr
 rw [← RIs_length hic] at h2 hh
 have hys2:=RIs_take ((h-l) * z) (RIs_drop (l * z) hic)
 rw [hds] at hys2
 obtain ⟨ys,hys⟩:∃ ys,(xs.drop (l * z)).take ((h-l) * z)=ys:=⟨_,rfl⟩
 rw [hys] at hys2
 simp only [R] at hr
 obtain ⟨A,n,c,⟨he,hnc⟩,hlen,hone,hrd,hmo⟩:=hr
 have hhn:h≤n:=by rw [hlen] at h2; exact Nat.le_of_mul_le_mul_right h2 h0
 have hln:l≤n:=by omega
 have hylen:ys.length=(h-l) * z:=by
  rw [← hys]
  have:l * z+(h-l) * z≤xs.length:=by rw [← Nat.add_mul]; rw [show l+(h-l)=h by omega]; exact h2
  simp; omega
 have hsub:∀ (j:Nat) (u:Value),ys[j]? = some u→xs[l * z+j]? = some u:=by
  intro j u hu
  rw [← hys] at hu
  simp only [List.getElem?_take,List.getElem?_drop] at hu
  split at hu
  ·exact hu
  ·cases hu
 have hone':∀ u∈ys,u.oneCell'=true:=fun u hu=>by
  rw [← hys] at hu
  exact hone u (List.mem_of_mem_drop (List.mem_of_mem_take hu))
 have hne:ys≠[]→xs≠[]:=by
  rintro h3 rfl
  rw [← hys] at h3; simp at h3
 ·have e2:∀ y,lo=some y→∃ k,a.eval y = .int k (l:Int):=by
   intro y hy; subst hy; obtain ⟨k,hk⟩:=hl; exact ⟨k,rd_v hp.val hp.esN hk⟩
  have e3:∀ y,hi=some y→∃ k,a.eval y = .int k (h:Int):=by
   intro y hy; subst hy; obtain ⟨k,hk⟩:=hh; exact ⟨k,rd_v hp.val hp.esN hk⟩
  have hhc:h≤c:=by omega
  have hrun:(execOp a.eval ⟨some d,.slice T x lo hi none,ty,pos,aft,gd⟩).run P w = .ok (.value (.slice (if c=l then A else A.map (·.add (l * z))) (h-l) (c-l))) w:=by
   cases lo with
   | none =>
    simp only at hl; subst hl
    cases hi with
    | none =>
     simp only at hh
     have:h=n:=Nat.eq_of_mul_eq_mul_right h0 (by omega)
     subst this
     simp [execOp,Instr.sliceAt,Instr.slice,run_underlying hT,he,Instr.sliceBounds,run_sizeOf' hz]
    | some y =>
     obtain ⟨k,hk⟩:=e3 y rfl
     simp [execOp,Instr.sliceAt,Instr.slice,run_underlying hT,he,Instr.sliceBounds,Instr.sliceBound,asIntOf,hk,hhc,run_sizeOf' hz]
   | some y =>
    obtain ⟨k,hk⟩:=e2 y rfl
    cases hi with
    | none =>
     simp only at hh
     have:h=n:=Nat.eq_of_mul_eq_mul_right h0 (by omega)
     subst this
     simp [execOp,Instr.sliceAt,Instr.slice,run_underlying hT,he,Instr.sliceBounds,Instr.sliceBound,asIntOf,hk,h1,run_sizeOf' hz]
    | some y' =>
     obtain ⟨k',hk'⟩:=e3 y' rfl
     simp [execOp,Instr.sliceAt,Instr.slice,run_underlying hT,he,Instr.sliceBounds,Instr.sliceBound,asIntOf,hk,hk',h1,hhc,run_sizeOf' hz]
  refine ⟨_,hrun,fl_fr ?_ hys2⟩
  simp only [R]
  refine ⟨_,h-l,c-l,⟨rfl,by omega⟩,hylen,hone',?_,?_⟩
  ·intro h3
   obtain ⟨ad,rfl,hc⟩:=hrd (hne h3)
   have hcl:c≠l:=by
    intro e
    have:h-l=0:=by omega
    rw [this] at hylen
    simp at hylen; exact h3 hylen
   rw [if_neg hcl]
   refine ⟨ad.add (l * z),rfl,fun j u hu => ?_⟩
   rw [add_add]
   exact hc _ _ (hsub j u hu)
  ·cases m with
   | own T=>simp [notOwn] at hm
   | ro =>
    refine ⟨rfl,fun h3 => ?_⟩
    obtain ⟨ad,rfl,hi⟩:=hmo.2 (hne h3)
    split
    ·exact ⟨ad,rfl,hi⟩
    ·exact ⟨ad.add (l * z),rfl,by rw [add_block]; exact hi⟩
   | shr =>
    refine ⟨rfl,fun h3 => ?_⟩
    obtain ⟨ad,rfl,hi⟩:=hmo.2 (hne h3)
    split
    ·exact ⟨ad,rfl,hi⟩
    ·exact ⟨ad.add (l * z),rfl,by rw [add_block]; exact hi⟩
end
section
variable {A B:Type} {z:Nat}
theorem gflat_len {enc:A→List B} (he:∀ x,(enc x).length=z) (l:List A):((l.map enc).flatten).length=l.length * z:=by
 induction l with
 | nil=>simp
 | cons x l ih=>simp only [List.map_cons,List.flatten_cons,List.length_append,he,ih,List.length_cons,Nat.add_mul]; omega
theorem gflat_lt {enc:A→List B} (he:∀ x,(enc x).length=z) {l:List A} {i:Nat} (h:i<l.length):i * z+z≤((l.map enc).flatten).length:=by
 rw [gflat_len he]
 have:(i+1) * z≤l.length * z:=Nat.mul_le_mul_right _ h
 rw [Nat.add_mul] at this; omega
theorem gflat_drop {enc:A→List B} (he:∀ x,(enc x).length=z):∀ (l:List A) (i:Nat),((l.map enc).flatten).drop (i * z)=((l.drop i).map enc).flatten
 | [],i=>by simp
 | x::l,0=>by simp
 | x::l,i+1=>by
  simp only [List.map_cons,List.flatten_cons,List.drop_succ_cons]
  rw [Nat.add_mul,Nat.one_mul,Nat.add_comm,← List.drop_drop,← he x,List.drop_left,he x]
  exact gflat_drop he l i
theorem gflat_take {enc:A→List B} (he:∀ x,(enc x).length=z):∀ (l:List A) (i:Nat),((l.map enc).flatten).take (i * z)=((l.take i).map enc).flatten
 | [],i=>by simp
 | x::l,0=>by simp
 | x::l,i+1=>by
  simp only [List.map_cons,List.flatten_cons,List.take_succ_cons]
  rw [Nat.add_mul,Nat.one_mul,Nat.add_comm,List.take_add,← he x,List.take_left,List.drop_left,he x]
  rw [gflat_take he l i]
theorem gflat_get {enc:A→List B} (he:∀ x,(enc x).length=z) {l:List A} {i:Nat} {x:A} (h:getO l i=some x):(((l.map enc).flatten).drop (i * z)).take z=enc x:=by
 rw [gflat_drop he]
 obtain ⟨hi,rfl⟩:=List.getElem?_eq_some_iff.1 h
 rw [List.drop_eq_getElem_cons hi]
 simp only [List.map_cons,List.flatten_cons]
 rw [← he l[i],List.take_left]
theorem gflat_cell {enc:A→List B} (he:∀ x,(enc x).length=z) {l:List A} {i j:Nat} {x:A} {v:B} (h:getO l i=some x) (hv:(enc x)[j]? = some v):((l.map enc).flatten)[i * z+j]? = some v:=by
 have h1:=gflat_get he h
 have hj:j<z:=by rw [← he x]; exact (List.getElem?_eq_some_iff.1 hv).1
 rw [← h1,List.getElem?_take,if_pos hj,List.getElem?_drop] at hv
 exact hv
theorem gflat_app {enc:A→List B} {l m q:List A} (h:l++m=q):(l.map enc).flatten++(m.map enc).flatten=(q.map enc).flatten:=by subst h; simp
theorem gflat_sli {enc:A→List B} (he:∀ x,(enc x).length=z) {l q:List A} {a b:Int} (h:sliO l a b=some q):(((l.map enc).flatten).drop (a.toNat * z)).take ((b.toNat-a.toNat) * z)=(q.map enc).flatten:=by
 unfold sliO at h
 split at h
 ·cases h
  rw [gflat_drop he,gflat_take he]
 ·cases h
theorem sli_bd {l q:List A} {a b:Int} (h:sliO l a b=some q):a=(a.toNat:Int)∧b=(b.toNat:Int)∧a.toNat≤b.toNat∧b.toNat≤l.length:=by
 unfold sliO at h
 split at h
 ·omega
 ·cases h
end
section
variable {P:Program} {Q:Exit→Act→World→Prop} {g0:Gh} {rnd:Option Nat}
end
end Go.Abs
end
section
/-
 What came in,opened: a value of any type of numbers,truth values,texts,rows and structs of such,as the logic of places knows it.
-/
namespace Go.Abs
open Go.WideShapes
def wfI (k:IntKind) (n:Int):Prop:=(Lit.int k n).wf=true
def wfS (s:ByteArray):Prop:=s.size≤maxLen
def wfL {A:Type} (p:A→Prop) (l:List A):Prop:=l.length≤maxLen∧∀ x∈l,p x
def inW (W:World):Gh:=gh0 W (fun _=>False) (fun b=>b<W.heap.size)
section
variable {H:Type} {enc:TypeId×Value→H} {P:Program} {W:World} {sp:Nat→Bool} {hd:Bool} {t:TypeId}
theorem in_v (x:Value):R (inW W) V0 W (.v x) x []:=by simp [R]
theorem in_nil:Rs (inW W) V0 W [] [] []:=by simp [Rs]
theorem in_cons {c:AV} {cs:List AV} {x:Value} {xs:List Value} (h:R (inW W) V0 W c x []) (hs:Rs (inW W) V0 W cs xs []):Rs (inW W) V0 W (c::cs) (x::xs) []:=by
 simp only [Rs]; exact ⟨x,xs,[],[],rfl,rfl,h,hs⟩
end
end Go.Abs
end
section
/-
 What is appended otherwise: a text's bytes; lengths of nil.
-/
namespace Go.Abs
def Apps (P:Program) (T U ty e:TypeId) (z by_:Nat) (yv:Value) (m:Nat) (ys:List Value):Prop :=
 ∀ (w:World) (v:Value) (n:Nat) (xs:List Value),w.ownsRow 0 e z v n xs→n+m≤maxLen→(n+m) * by_≤140737488355328 →
  ∃ v' w',(Builtin.append_ #[T,U] ty #[v,yv]).run P w = .ok v' w'∧w'.ownsRow 0 e z v' (n+m) (xs++ys)∧w.grownBy w' v.ownBlock∧(v'.ownBlock=v.ownBlock∨v'.ownBlock=some w.heap.size)
section
variable {P:Program} {ty:TypeId} {pos:String} {aft:Array Edge} {gd:Option (Nat×Bool)}
theorem op_appends (N:List Ent) (d t:Nat) {T U e t':TypeId} (x y:Operand) {z by_:Nat} {yv:Value} {xs ys:List Value} (n m:Nat) (hE:ElemT P T e z by_) (hx:dupOp (N++[(t,.fl (.own e) z xs)]) x = .same (.slot t)) (hy:rd N y = .v yv) (hap:Apps P T U t' e z by_ yv m ys)
  (hn:xs.length=n * z) (h1y:∀ u∈ys,u.oneCell'=true) (hb:(n+m) * by_≤140737488355328) (h63:n+m≤maxLen) :
  LOp P ⟨some d,.call ⟨.builtin .append,#[x,y],#[T,U]⟩,t',pos,aft,gd⟩ N [(t,.fl (.own e) z xs)] [(t,.any),(d,.fl (.own e) z (xs++ys))] [.slot d]:=by
 obtain ⟨i,zv,hT,hi,hz,hs,hzc,h0,rfl⟩:=hE.ex
 refine LOp.core fun g V oN oT a w hd hp => ?_
 have hT':=hp.esT
 simp only [Es] at hT'
 obtain ⟨ob,o2,rfl,⟨hR,_⟩,rfl⟩:=hT'
 have hax:=dupOp_R hp.val (Es_append.2 ⟨oN,_,rfl,hp.esN,hp.esT⟩) x
 rw [hx] at hax
 simp only [R] at hax hR
 obtain ⟨a0,n0,c0,⟨h3,_⟩,hl0,hone0,_,hown,hob⟩:=hR
 have he:=rd_v hp.val hp.esN hy
 have hone:=h1y
 have en:n0=n:=Nat.eq_of_mul_eq_mul_right h0 (by omega)
 subst en
 obtain ⟨v',w',hrun,hown',hg,hblk⟩:=hap w _ _ _ hown h63 (by simpa using hb)
 have hrun':(execOp a.eval ⟨some d,.call ⟨.builtin .append,#[x,y],#[T,U]⟩,t',pos,aft,gd⟩).run P w = .ok (.value v') w':=by
  have h4:a.eval x=V (.slot t):=hax.1
  simp [execOp,resolve,invoke,builtin,he,h4,hrun]
 refine (Yl.val hrun').mono ?_
 rintro v w2 ⟨rfl,rfl⟩
 have hlt:d<g.n:=hd d rfl
 have hchg:Chg ob w w2:=by rw [hob]; exact Chg.of_grown hg
 refine ⟨g,setV V d v,v.ownBlock.toList,g.le_refl,fun b hb => .inl hb,fun b hb=>Nat.lt_of_lt_of_le (hp.imm b (.inl hb)) hchg.size,by simpa using hchg,fun l hl=>setV_hit hl,fun u=>setV_val hp.val hp.size hlt u,?_,by cases v.ownBlock <;> simp,?_⟩
 ·refine ⟨[],v.ownBlock.toList,rfl,⟨by simp [R],trivial⟩,v.ownBlock.toList,[],by simp,⟨?_,trivial⟩,rfl⟩
  show R g _ _ _ (setV V d v (.slot d)) _
  rw [setV_slot]
  refine own_fl hown' fun u hu => ?_
  rcases List.mem_append.1 hu with h | h
  ·exact hone0 u h
  ·exact hone u h
 ·intro b hb'
  have hvb:v.ownBlock=some b:=by cases hv:v.ownBlock <;> simp [hv] at hb' ⊢; exact hb'.symm
  have hlt2:=(hown'.lt b hvb).2
  rcases hblk with h | h
  ·have hin:b∈ob:=by rw [hob,← h,hvb]; simp
   exact ⟨.inl (by simp [hin]),hlt2,(hp.own b (by simp [hin])).2⟩
  ·rw [hvb] at h
   cases h
   refine ⟨.inr (Nat.le_refl _),hlt2,fun hi=>Nat.lt_irrefl _ (hp.imm _ hi)⟩
theorem op_appends_cell (N:List Ent) (d t i:Nat) {T U e t' T':TypeId} (x y:Operand) {z by_:Nat} {yv:Value} {cs:List AV} {xs ys:List Value} (n m:Nat) (hE:ElemT P T e z by_) (hx:dupOp N x = .same (.cell t i)) (hc:cs.getD i .any = .fl (.own e) z xs) (hic:i<cs.length)
  (hy:rd N y = .v yv) (hap:Apps P T U t' e z by_ yv m ys) (hn:xs.length=n * z) (h1y:∀ u∈ys,u.oneCell'=true) (hb:(n+m) * by_≤140737488355328) (h63:n+m≤maxLen) (hdt:d≠t) (hcl:clrs [.slot d] (cs.set i .any)=true) :
  LOp P ⟨some d,.call ⟨.builtin .append,#[x,y],#[T,U]⟩,t',pos,aft,gd⟩ N [(t,.box T' cs)] [(t,.box T' (cs.set i .any)),(d,.fl (.own e) z (xs++ys))] [.slot d]:=by
 obtain ⟨ti,zv,hT,hi,hz,hs,hzc,h0,rfl⟩:=hE.ex
 refine LOp.core fun g V oN oT a w hd hp => ?_
 have hT':=hp.esT
 simp only [Es] at hT'
 obtain ⟨ob,o2,rfl,hER,rfl⟩:=hT'
 obtain ⟨hR,htie⟩:=hER
 have hax:=dupOp_R hp.val hp.esN x
 rw [hx] at hax
 simp only [R] at hax hR
 obtain ⟨b,cur,os,hpt,rfl,hh,hrs⟩:=hR
 dsimp only at htie
 obtain ⟨o1,o3,hperm,hRi,hrest⟩:=Rs_setAny i hrs hic
 rw [hc] at hRi
 have hlen:=Rs_length hrs
 have hcell:=htie b hpt i hic
 rw [cell_of_row w b i _ T' (0,0) hh] at hcell
 have hil:i<cur.length:=by omega
 have hVc:V (.cell t i)=cur.getD i undef:=by
  simp only [List.getElem?_toArray,List.getElem?_eq_getElem hil,Option.some.injEq] at hcell
  rw [← hcell]; simp [hil]
 obtain ⟨u0,hu0⟩:∃ u,u=cur.getD i undef:=⟨_,rfl⟩
 rw [← hu0] at hVc hRi
 simp only [R] at hRi
 obtain ⟨a0,n0,c0,⟨h3,_⟩,hl0,hone0,_,hown,hob⟩:=hRi
 have he:=rd_v hp.val hp.esN hy
 have hone:=h1y
 have en:n0=n:=Nat.eq_of_mul_eq_mul_right h0 (by omega)
 subst en
 obtain ⟨v',w',hrun,hown',hg,hblk⟩:=hap w _ _ _ hown h63 (by simpa using hb)
 have hrun':(execOp a.eval ⟨some d,.call ⟨.builtin .append,#[x,y],#[T,U]⟩,t',pos,aft,gd⟩).run P w = .ok (.value v') w':=by
  have h4:a.eval x=u0:=by rw [hax.1,hVc]
  simp [execOp,resolve,invoke,builtin,he,h4,hrun]
 refine (Yl.val hrun').mono ?_
 rintro v w2 ⟨rfl,rfl⟩
 have hlt:d<g.n:=hd d rfl
 have hchg:Chg o1 w w2:=by rw [hob]; exact Chg.of_grown hg
 have hin1:∀ c,c∈o1→c∈b::os:=fun c hc'=>by have:=hperm.mem_iff.2 (List.mem_append.2 (.inl hc')); simp [this]
 have hin3:∀ c,c∈o3→c∈b::os:=fun c hc'=>by have:=hperm.mem_iff.2 (List.mem_append.2 (.inr hc')); simp [this]
 have hinb:∀ c,c∈b::o3→c∈b::os:=by
  intro c hc'
  rcases List.mem_cons.1 hc' with h | h
  ·simp [h]
  ·exact hin3 c h
 have hnd2:(b::os).Nodup:=by have:=(List.nodup_append.1 hp.nodup).2.1; simpa using this
 have hnd3:(b::(o1++o3)).Nodup:=((hperm.cons b).nodup_iff).1 hnd2
 have hlts:∀ c,c∈b::os→c<w.heap.size∧¬ g.imm c:=fun c hc'=>hp.own c (by simp at hc' ⊢; exact .inr hc')
 have hkeep:∀ c,c∈b::o3∨g.imm c→w2.heap[c]? = w.heap[c]? := by
  intro c hc'
  rcases hc' with hc' | hc'
  ·refine hchg.block c (hlts c (hinb c hc')).1 fun h1 => ?_
   simp only [List.nodup_cons,List.mem_append,List.nodup_append] at hnd3
   rcases List.mem_cons.1 hc' with rfl | h3
   ·exact hnd3.1 (.inl h1)
   ·exact hnd3.2.2.2 c h1 c h3 rfl
  ·exact hchg.block c (hp.imm c hc') fun h1=>(hlts c (hin1 c h1)).2 hc'
 have hdtl:∀ l,hit [.slot d] l=false→setV V d v l=V l:=fun l hl=>setV_hit hl
 refine ⟨g,setV V d v,(b::o3)++v.ownBlock.toList,g.le_refl,fun b hb => .inl hb,fun b hb=>Nat.lt_of_lt_of_le (hp.imm b (.inl hb)) hchg.size,?_,hdtl,fun u=>setV_val hp.val hp.size hlt u,?_,?_,?_⟩
 ·exact hchg.mono fun c hc'=>by simpa using hin1 c hc'
 ·have hVt:setV V d v (.slot t)=V (.slot t):=by simp only [setV]; rw [if_neg fun e=>hdt e.symm]
  have hVtc:∀ j,setV V d v (.cell t j)=V (.cell t j):=fun j=>rfl
  refine ⟨b::o3,v.ownBlock.toList,rfl,⟨?_,?_⟩,v.ownBlock.toList,[],by simp,⟨?_,trivial⟩,rfl⟩
  ·show R g _ _ (.box T' _) (setV V d v (.slot t)) _
   rw [hVt]
   simp only [R]
   refine ⟨b,cur,o3,hpt,rfl,by rw [hkeep b (.inl (by simp))]; exact hh,?_⟩
   exact Rs_stab (W:=[.slot d]) (fun _ h=>h) (fun _ h=>h) hdtl _ _ _ hcl (fun c hc'=>hkeep c (hc'.imp (fun h=>by simp [h]) id)) hrest
  ·intro b' hb' j hj
   rw [hVt] at hb'
   rw [hVtc]
   rw [World.cell?_of_block (w:=w) (by
    rw [hpt] at hb'; cases hb'
    exact hkeep b (.inl (by simp)))]
   exact htie b' hb' j (by simpa using hj)
  ·show R g _ _ _ (setV V d v (.slot d)) _
   rw [setV_slot]
   refine own_fl hown' fun u hu => ?_
   rcases List.mem_append.1 hu with h | h
   ·exact hone0 u h
   ·exact hone u h
 ·refine List.nodup_append.2 ⟨?_,by cases v.ownBlock <;> simp,?_⟩
  ·have:(o1++(b::o3)).Nodup:=(List.perm_middle.nodup_iff).2 hnd3
   exact (List.nodup_append.1 this).2.1
  ·intro c hc' c2 hc2 e
   subst e
   have hvb:v.ownBlock=some c:=by cases hv:v.ownBlock <;> simp [hv] at hc2 ⊢; exact hc2.symm
   rcases hblk with h | h
   ·have hin:c∈o1:=by rw [hob,← h,hvb]; simp
    simp only [List.nodup_cons,List.mem_append,List.nodup_append] at hnd3
    rcases List.mem_cons.1 hc' with rfl | h3
    ·exact hnd3.1 (.inl hin)
    ·exact hnd3.2.2.2 c hin c h3 rfl
   ·rw [hvb] at h
    cases h
    have:=(hlts w.heap.size (hinb _ hc')).1
    omega
 ·intro c hc'
  rcases List.mem_append.1 hc' with hc' | hc'
  ·have h4:c∈b::os:=hinb c hc'
   exact ⟨.inl (by simpa using h4),Nat.lt_of_lt_of_le (hlts c h4).1 hchg.size,(hlts c h4).2⟩
  ·have hvb:v.ownBlock=some c:=by cases hv:v.ownBlock <;> simp [hv] at hc' ⊢; exact hc'.symm
   have hlt2:=(hown'.lt c hvb).2
   rcases hblk with h | h
   ·have hin:c∈o1:=by rw [hob,← h,hvb]; simp
    exact ⟨.inl (by simpa using hin1 c hin),hlt2,(hlts c (hin1 c hin)).2⟩
   ·rw [hvb] at h
    cases h
    exact ⟨.inr (Nat.le_refl _),hlt2,fun hi=>Nat.lt_irrefl _ (hp.imm _ hi)⟩
theorem apps_str {t u ty e:TypeId} {i:TypeInfo} {s:ByteArray} (ht:P.underlying t=some (.slice e)) (hu:P.underlying u=some .string) (hi:P.info? e=some i) (hz:i.zero=some (.int .u8 0)) (hsize:i.size=1) (hby:i.bytes=1) :
  Apps P t u ty e 1 1 (.string s) s.size (Lib.strCells s):=by
 intro w v n xs hown h63 hbytes
 have hbase:0≤w.heap.size:=Nat.zero_le _
 have hsmall:n+s.size≤9223372036854775807:=by simp only [maxLen] at h63; omega
 have hxl:xs.length=n:=by simpa using hown.1
 have hlen:(xs++Lib.strCells s).length=(n+s.size) * 1:=by rw [List.length_append,hxl,Lib.strCells_length,Nat.mul_one]
 have grown:∀ (old:Nat),old<n+s.size→∀ (row:Option Nat),
   (w.drew.alloc (.cells (xs.toArray++(Lib.strCells s).toArray++Builtin.zeroCells (Value.int .u8 0).cells (grownCap w (n+s.size) old e-(n+s.size))) e)).ownsRow 0 e 1
    (.slice (some ⟨w.heap.size,0,none⟩) (n+s.size) (grownCap w (n+s.size) old e)) (n+s.size) (xs++Lib.strCells s) ∧
   w.grownBy (w.drew.alloc (.cells (xs.toArray++(Lib.strCells s).toArray++Builtin.zeroCells (Value.int .u8 0).cells (grownCap w (n+s.size) old e-(n+s.size))) e)) row:=by
  intro old ho row
  have hge:=grownCap_ge w (n+s.size) old e
  have hcm:grownCap w (n+s.size) old e≤maxLen:=grownCap_le_maxLen w (n+s.size) old e h63
  refine ⟨⟨hlen,.inr ⟨w.heap.size,_,_,rfl,hbase,heap_alloc_new w.drew _,hge,hcm,?_,?_⟩⟩,⟨rfl,rfl,rfl,by simp,fun k hk _=>heap_alloc_old w.drew _ k hk⟩⟩
  ·have hz1:(Value.int IntKind.u8 0).cells.size=1:=rfl
   simp only [Array.size_append,List.size_toArray,size_zeroCells,hz1,hxl,Lib.strCells_length]
   omega
  ·simp only [Array.toList_append,List.append_assoc]
   rw [← List.append_assoc,← hlen]
   exact List.take_left
 rcases hown.2 with ⟨rfl,rfl⟩ | ⟨g,cap,cur,rfl,hbg,hg,hnc,hcm,hcs,htake⟩
 ·have hx:xs=[]:=List.eq_nil_of_length_eq_zero hxl
  subst hx
  by_cases hm:s.size=0
  ·have hn:Lib.strCells s=[]:=List.eq_nil_of_length_eq_zero (by rw [Lib.strCells_length]; exact hm)
   refine ⟨.slice none 0 0,w,?_,by rw [hm,hn]; exact World.ownsRow_nil w 0 e 1,⟨rfl,rfl,rfl,Nat.le_refl _,fun _ _ _=>rfl⟩,.inl rfl⟩
   have hf:=Lib.run_firstCells_string (P:=P) w 1 s
   rw [hm] at hf
   simp [Builtin.append_,run_underlying ht,run_underlying hu,sizeOf,typeInfo,hi,hsize,Builtin.lenOf,hm,hf]
  ·have hr:=run_append_nil_string (P:=P) w t u ty e i (.int .u8 0) ht hu hi hz s (by omega) (by omega) (by rw [hby]; omega)
   have hgr:=grown 0 (by omega) (Value.ownBlock (.slice none 0 0))
   simp only [Nat.zero_add,List.nil_append,Array.empty_append] at hgr ⊢
   have e1:(s.data.map fun b=>Value.int .u8 b.toNat)=(Lib.strCells s).toArray:=by
    apply Array.ext'
    simp [Lib.strCells]
   rw [e1] at hr
   exact ⟨_,_,hr,hgr.1,hgr.2,.inr rfl⟩
 ·by_cases hroom:n+s.size≤cap
  ·have hcs':cur.size=cap:=by simpa using hcs
   have hr:=Lib.run_append_room_string (P:=P) w t u ty e i ht hu hi hsize g n cap cur hg s hroom (by omega)
   refine ⟨_,_,hr,⟨hlen,.inr ⟨g,cap,_,rfl,hbg,setRow_heap w g cur _ e _ hg,hroom,hcm,?_,?_⟩⟩,⟨rfl,rfl,rfl,by simp,fun k _ hk=>setRow_other w g k _ (fun e=>hk (by simp [Value.ownBlock,e]))⟩,.inl rfl⟩
   ·simp only [List.size_toArray,List.length_append,List.length_take,List.length_drop,Array.length_toList,Lib.strCells_length]
    omega
   ·have ht':cur.toList.take n=xs:=by simpa using htake
    rw [ht',← hlen]
    exact List.take_left
  ·have holds:∀ j u,xs[j]? = some u→w.cell? ((⟨g,0,none⟩:Addr).add j)=some u:=hown.cells (g:=g) rfl
   have hr:=Lib.run_append_grow_string (P:=P) w t u ty e i (.int .u8 0) ht hu hi hz ⟨g,0,none⟩ n cap xs (by rw [hsize]; simpa using hxl) holds s (by omega) (by omega) (by rw [hby]; exact growslice_fits (by omega) (by omega))
   have hgr:=grown cap (by omega) (Value.ownBlock (.slice (some ⟨g,0,none⟩) n cap))
   exact ⟨_,_,hr,hgr.1,hgr.2,.inr rfl⟩
theorem sbytes_vals (s:ByteArray):List.map (Value.int .u8) (sbytes s)=Lib.strCells s:=by
 simp [sbytes,Lib.strCells]
theorem sbytes_len (s:ByteArray):(sbytes s).length=s.size:=by simp [sbytes]
theorem ElemT.str {t u ty e:TypeId} {s:ByteArray} (hE:ElemT P t e 1 1) (hz:(P.info? e).bind (·.zero)=some (.int .u8 0)) (hu:P.underlying u=some .string):Apps P t u ty e 1 1 (.string s) s.size (Lib.strCells s):=by
 obtain ⟨i,zv,hT,hi,_,hs,_,_,hb⟩:=hE.ex
 rw [hi] at hz
 exact apps_str hT hu hi hz hs hb
theorem op_apps (N:List Ent) (d t:Nat) {T U e t':TypeId} (x y:Operand) {s:ByteArray} {l q:List Int} {xs zs:List Value} (hE:ElemT P T e 1 1) (hz:(P.info? e).bind (·.zero)=some (.int .u8 0)) (hu:P.underlying U=some .string) (hx:dupOp (N++[(t,.fl (.own e) 1 xs)]) x = .same (.slot t)) (hy:rd N y = .v (.string s))
  (hl:l.map (Value.int .u8)=xs) (hq:appO 1 l (sbytes s)=some q) (hzs:q.map (Value.int .u8)=zs):LOp P ⟨some d,.call ⟨.builtin .append,#[x,y],#[T,U]⟩,t',pos,aft,gd⟩ N [(t,.fl (.own e) 1 xs)] [(t,.any),(d,.fl (.own e) 1 zs)] [.slot d]:=by
 subst hzs hl
 unfold appO at hq
 split at hq
 ·rename_i h
  cases hq
  rw [List.map_append,sbytes_vals]
  simp only [sbytes_len,Nat.mul_one] at h
  exact op_appends N d t x y l.length s.size hE hx hy (hE.str hz hu) (by simp) (Lib.strCells_oneCell s) (by omega) (by simp only [maxLen]; omega)
 ·cases hq
theorem op_apps_cell (N:List Ent) (d t i:Nat) {T U e t' T':TypeId} (x y:Operand) {s:ByteArray} {l q:List Int} {cs cs':List AV} {xs zs:List Value} (hE:ElemT P T e 1 1) (hz:(P.info? e).bind (·.zero)=some (.int .u8 0)) (hu:P.underlying U=some .string) (hx:dupOp N x = .same (.cell t i)) (hc:cs.getD i .any = .fl (.own e) 1 xs) (hic:i<cs.length) (hy:rd N y = .v (.string s))
  (hl:l.map (Value.int .u8)=xs) (hq:appO 1 l (sbytes s)=some q) (hzs:q.map (Value.int .u8)=zs) (hdt:d≠t) (hcs:cs.set i .any=cs') (hcl:clrs [.slot d] cs'=true) :
  LOp P ⟨some d,.call ⟨.builtin .append,#[x,y],#[T,U]⟩,t',pos,aft,gd⟩ N [(t,.box T' cs)] [(t,.box T' cs'),(d,.fl (.own e) 1 zs)] [.slot d]:=by
 subst hzs hl hcs
 unfold appO at hq
 split at hq
 ·rename_i h
  cases hq
  rw [List.map_append,sbytes_vals]
  simp only [sbytes_len,Nat.mul_one] at h
  exact op_appends_cell N d t i x y l.length s.size hE hx hc hic hy (hE.str hz hu) (by simp) (Lib.strCells_oneCell s) (by omega) (by simp only [maxLen]; omega) hdt hcl
 ·cases hq
end
end Go.Abs
end
section
/-
 A variable is stored into itself.
-/
namespace Go.Abs
inductive Selfs (t:Nat):Nat→List AV→List AV→Prop
 | nil (i:Nat):Selfs t i [] []
 | same {i:Nat} {ds cs:List AV} (c:AV) (h:Selfs t (i+1) ds cs):Selfs t i (.same (.cell t i)::ds) (c::cs)
 | eq {i:Nat} {ds cs:List AV} (c:AV) (h:Selfs t (i+1) ds cs):Selfs t i (c::ds) (c::cs)
theorem Selfs_Rs {g:Gh} {V:Loc→Value} {w:World} {t:Nat}:∀ {i:Nat} {ds cs:List AV} {xs ys:List Value} {o:List Nat},Selfs t i ds cs→Rs g V w ds ys []→Rs g V w cs xs o→(∀ j x,xs[j]? = some x→V (.cell t (i+j))=x)→∃ o',o'.Sublist o∧Rs g V w cs ys o'
 | i,_,_,xs,ys,o,.nil _,h1,h2,_=>⟨o,List.Sublist.refl _,by simp only [Rs] at *; exact ⟨h1.1,h2.2⟩⟩
 | i,_,_,xs,ys,o,.same c h,h1,h2,hv=>by
  simp only [Rs] at h1 h2
  obtain ⟨y,ys',p1,p2,rfl,hp,a1,a2⟩:=h1
  obtain ⟨x,xs',o1,o2,rfl,rfl,b1,b2⟩:=h2
  obtain ⟨rfl,rfl⟩:=List.append_eq_nil_iff.1 hp.symm
  obtain ⟨o',s1,s2⟩:=Selfs_Rs h a2 b2 (fun j x hx=>by
   have:=hv (j+1) x (by simpa using hx)
   rwa [show i+(j+1)=i+1+j by omega] at this)
  simp only [R] at a1
  have e:y=x:=by rw [a1.1]; exact hv 0 x (by simp)
  subst e
  exact ⟨o1++o',s1.append_left o1,by simp only [Rs]; exact ⟨y,ys',o1,o',rfl,rfl,b1,s2⟩⟩
 | i,_,_,xs,ys,o,.eq c h,h1,h2,hv=>by
  simp only [Rs] at h1 h2
  obtain ⟨y,ys',p1,p2,rfl,hp,a1,a2⟩:=h1
  obtain ⟨x,xs',o1,o2,rfl,rfl,b1,b2⟩:=h2
  obtain ⟨rfl,rfl⟩:=List.append_eq_nil_iff.1 hp.symm
  obtain ⟨o',s1,s2⟩:=Selfs_Rs h a2 b2 (fun j x hx=>by
   have:=hv (j+1) x (by simpa using hx)
   rwa [show i+(j+1)=i+1+j by omega] at this)
  exact ⟨o',s1.trans (List.sublist_append_right o1 o2),by simp only [Rs]; exact ⟨y,ys',[],o',rfl,rfl,a1,s2⟩⟩
section
variable {P:Program} {ty:TypeId} {pos:String} {aft:Array Edge} {gd:Option (Nat×Bool)}
theorem op_store_self (N:List Ent) {T:TypeId} (ax vx:Operand) {T':TypeId} {cs ds:List AV} (u t s:Nat) (hs:(P.info? T).map (·.size)=some s)
  (hx:dupOp (N++[(u,.agg ds),(t,.box T' cs)]) ax = .ptr t 0) (hv:dupOp (N++[(u,.agg ds),(t,.box T' cs)]) vx = .agg ds) (hok:cellsOk (N++[(u,.agg ds),(t,.box T' cs)]) (.agg ds)=true) (hd:ds.length=s) (hl:cs.length=s)
  (hse:Selfs t 0 ds cs) (hcl:clrs (cellsW t 0 s) cs=true) :
  LOp P ⟨none,.store T ax vx,ty,pos,aft,gd⟩ N [(u,.agg ds),(t,.box T' cs)] [(t,.box T' cs)] (cellsW t 0 s):=by
 refine LOp.core fun g V oN oT a w hdd hp => ?_
 have hB':Es g V w [(u,.agg ds),(t,.box T' cs)] oT:=hp.esT
 have hB:=hB'
 simp only [Es] at hB
 obtain ⟨ou,oq,rfl,hU,ob,o2,rfl,hER,rfl⟩:=hB
 obtain ⟨hR1,htie⟩:=hER
 simp only [R] at hR1
 obtain ⟨b,xs,os,h3,rfl,hh,hrs⟩:=hR1
 dsimp only at htie h3
 have hNT:=Es_append.2 ⟨oN,_,rfl,hp.esN,hB'⟩
 have hax:=dupOp_R hp.val hNT ax
 rw [hx] at hax
 simp only [R] at hax
 obtain ⟨b2,h4,h5,_⟩:=hax
 rw [h3] at h4; cases h4
 have hval:=dupOp_R hp.val hNT vx
 rw [hv] at hval
 obtain ⟨hvc,hone⟩:=vcells_R hNT hok hval
 simp only [vcells] at hvc
 have hl1:=Rs_length hvc
 have hl2:=Rs_length hrs
 have hVx:∀ j x,xs[j]? = some x→V (.cell t (0+j))=x:=by
  intro j x hx
  have hj:=(List.getElem?_eq_some_iff.1 hx).1
  have hcell:=htie b h3 j (by omega)
  rw [cell_of_row w b j _ T' (0,0) hh] at hcell
  simp only [List.getElem?_toArray,hx,Option.some.injEq] at hcell
  rw [Nat.zero_add]; exact hcell.symm
 obtain ⟨os',hsub,hnew0⟩:=Selfs_Rs hse hvc hrs hVx
 obtain ⟨ys,hys⟩:∃ ys,ys=(a.eval vx).cells.toList:=⟨_,rfl⟩
 rw [← hys] at hvc hone hl1 hnew0
 have hrun:(execOp a.eval ⟨none,.store T ax vx,ty,pos,aft,gd⟩).run P w = .ok .skip (w.setRow b ys.toArray):=by
  have:=run_storeRow (P:=P) (w:=w) (T:=T) (off:=0) hs hh (v:=a.eval vx) (by rw [← hd,← hl1,hys]; simp) (by rw [← hys]; exact hone) (by omega)
  have e:(xs.take 0++(a.eval vx).cells.toList++xs.drop (0+s)).toArray=ys.toArray:=by
   rw [← hys,Nat.zero_add,List.drop_eq_nil_of_le (by omega)]; simp
  rw [e] at this
  simp [execOp,Instr.storeAt,h5,Instr.sureAddr,this]
 refine (Yl.skip hrun).mono ?_
 rintro y w' ⟨rfl,rfl⟩
 have hnd:=hp.nodup
 have hndT:(b::os).Nodup:=by have:=(List.nodup_append.1 (List.nodup_append.1 hnd).2.1).2.1; simpa using this
 have hlt:∀ c,c∈b::os→c<w.heap.size∧¬ g.imm c:=fun c hc=>hp.own c (by simp at hc ⊢; exact .inr (.inr hc))
 have hbi:=(hlt b (by simp)).2
 have hbo:b ∉ os:=(List.nodup_cons.1 hndT).1
 have hchg:Chg [b] w (w.setRow b ys.toArray):=setRow_chg _ _ _
 have hblk:∀ c,c≠b→(w.setRow b ys.toArray).heap[c]? = w.heap[c]? := fun c hc=>setRow_other w b c _ hc
 have hvl:ys.length=s:=by omega
 have hV':∀ l,hit (cellsW t 0 s) l=false→setC V t 0 ys l=V l:=fun l hl=>setC_hit (by rw [hvl]; exact hl)
 have hnew:=Rs_stab (W:=cellsW t 0 s) (g:=g) (g':=g) (V':=setC V t 0 ys) (w':=w.setRow b ys.toArray) (fun _ h=>h) (fun _ h=>h) hV' cs ys os' hcl (fun c hcc=>hblk c (by
  rcases hcc with hcc | hcc
  ·rintro rfl; exact hbo (hsub.subset hcc)
  ·rintro rfl; exact hbi hcc)) hnew0
 refine ⟨g,setC V t 0 ys,b::os',g.le_refl,fun c hc => .inl hc,fun c hc => ?_,hchg.mono (by simp),hV',?_,?_,?_,?_⟩
 ·exact Nat.lt_of_lt_of_le (hp.imm c (.inl hc)) hchg.size
 ·intro u; simp only [setC,Act.put]; exact hp.val u
 ·refine ⟨b::os',[],by simp,⟨?_,?_⟩,rfl⟩
  ·show R _ _ _ (.box T' _) (setC V t 0 _ (.slot t)) _
   simp only [R,setC]
   exact ⟨b,ys,os',h3,rfl,setRow_heap w b _ _ T' _ hh,hnew⟩
  ·intro b' hb' i hi
   simp only [setC] at hb'
   rw [h3] at hb'; cases hb'
   have hhn:=setRow_heap w b xs.toArray ys.toArray T' _ hh
   rw [cell_of_row _ b i _ T' (0,0) hhn]
   have h6:i<ys.length:=by omega
   simp only [List.getElem?_toArray,setC,true_and]
   rw [if_pos ⟨Nat.zero_le _,by omega⟩,List.getElem?_eq_getElem h6]
   simp [List.getD_eq_getElem?_getD,List.getElem?_eq_getElem h6]
 ·exact List.Nodup.sublist (hsub.cons_cons b) hndT
 ·intro c hc
  have hc':c∈b::os:=by
   rcases List.mem_cons.1 hc with h | h
   ·simp [h]
   ·exact List.mem_cons_of_mem _ (hsub.subset h)
  exact ⟨.inl (by simp at hc' ⊢; exact .inr hc'),Nat.lt_of_lt_of_le (hlt c hc').1 hchg.size,(hlt c hc').2⟩
end
end Go.Abs
end
