import Derived.Lib.FrozenHead
import Derived.OpenShut
import Derived.FnData
import Derived.Lib.UnsafeStr
import Derived.Lib.Builder
import Derived.Lib.Repeat
import Derived.Lib.Join
import Derived.Lib.Atoi
import Derived.Lib.Bytealg
import Derived.Lib.IndexAny
import Derived.HandedShaped
import Derived.Lib.LaidTab
import Derived.Lib.ItoaNum
import Derived.Sort.Grow
import Derived.Test.YtkgfjkfccpjcgaaDoorAR
section
namespace Go.Abs
mutual
def ig:AV→Bool
 | .fl (.own _) _ _=>false
 | .fr (.own _) _ _ _=>false
 | .box .. => false
 | .arr .. => false
 | .obox .. => false
 | .cloB .. => false
 | .inv _=>false
 | .mkr .. => false
 | .hid _=>false
 | .agg cs=>lN cs
 | .tup cs=>lN cs
 | _=>true
def lN:List AV→Bool
 | []=>true
 | c::cs=>ig c&&lN cs
end
mutual
theorem pM {g:Gh} {V:bH→Value} {w:World}:∀ (av:AV) (x:Value) (o:List Nat),ig av=true→R g V w av x o→o=[]
 | .any,x,o,_,h=>by simp only [R] at h; exact h
 | .v y,x,o,_,h=>by simp only [R] at h; exact h.2
 | .fl (.own _) z xs,x,o,hn,h=>by simp [ig] at hn
 | .fl .ro z xs,x,o,_,h=>by simp only [R,cm] at h; obtain ⟨a,n,c,_,_,_,_,h,_⟩:=h; exact h
 | .fl .shr z xs,x,o,_,h=>by simp only [R,cm] at h; obtain ⟨a,n,c,_,_,_,_,h,_⟩:=h; exact h
 | .agg cs,x,o,hn,h=>by simp only [R,ig] at *; obtain ⟨xs,_,h⟩:=h; exact ny cs xs o hn h
 | .tup cs,x,o,hn,h=>by simp only [R,ig] at *; obtain ⟨xs,_,h⟩:=h; exact ny cs xs o hn h
 | .box T cs,x,o,hn,h=>by simp [ig] at hn
 | .same l,x,o,_,h=>by simp only [R] at h; exact h.2
 | .ptr t i,x,o,_,h=>by simp only [R] at h; obtain ⟨b,_,_,h⟩:=h; exact h
 | .eref l k,x,o,_,h=>by simp only [R] at h; obtain ⟨a,n,c,_,_,h⟩:=h; exact h
 | .arr T vs,x,o,hn,h=>by simp [ig] at hn
 | .fr (.own _) s z cs,x,o,hn,h=>by simp [ig] at hn
 | .fr .ro s z cs,x,o,_,h=>by simp only [R,cm] at h; obtain ⟨vs,a,n,c,_,_,_,_,⟨h,_⟩,_⟩:=h; exact h
 | .fr .shr s z cs,x,o,_,h=>by simp only [R,cm] at h; obtain ⟨vs,a,n,c,_,_,_,_,⟨h,_⟩,_⟩:=h; exact h
 | .glob gl,x,o,_,h=>by simp only [R] at h; exact h.2
 | .obox p T cs,x,o,hn,h=>by simp [ig] at hn
 | .clo f ts,x,o,_,h=>by simp only [R] at h; exact h.2
 | .cut l k,x,o,_,h=>by simp only [R] at h; obtain ⟨a,n,c,_,_,_,_,h⟩:=h; exact h
 | .cloB f cs,x,o,hn,h=>by simp [ig] at hn
 | .inv J,x,o,hn,h=>by simp [ig] at hn
 | .mkr E xs,x,o,hn,h=>by simp [ig] at hn
 | .hid J,x,o,hn,h=>by simp [ig] at hn
 | .asl t i,x,o,_,h=>by simp only [R] at h; obtain ⟨b,_,_,h⟩:=h; exact h
theorem ny {g:Gh} {V:bH→Value} {w:World}:∀ (cs:List AV) (xs:List Value) (o:List Nat),lN cs=true→Rs g V w cs xs o→o=[]
 | [],xs,o,_,h=>by simp only [Rs] at h; exact h.2
 | c::cs,xs,o,hn,h=>by
  simp only [Rs,lN,Bool.and_eq_true] at *
  obtain ⟨x,xs',o1,o2,_,rfl,h1,h2⟩:=h
  rw [pM c x o1 hn.1 h1,ny cs xs' o2 hn.2 h2]; rfl
end
theorem oo {g:Gh} {V:bH→Value} {w:World}:∀ (es:List aJ) (o:List Nat),es.all (fun e=>ig e.2)=true→Es g V w es o→o=[]
 | [],o,_,h=>h
 | e::es,o,hn,h=>by
  simp only [List.all_cons,Bool.and_eq_true] at hn
  obtain ⟨o1,o2,rfl,⟨h1,_⟩,h2⟩:=h
  rw [pM _ _ _ hn.1 h1,oo es o2 hn.2 h2]; rfl
section
variable {P:Program} {Q:Exit→Act→World→Prop} {g0:Gh} {rnd:Option Nat}
end
section
variable {P:Program} {ty:TypeId} {pos:String} {aft:Array Edge} {gd:Option (Nat×Bool)}
theorem CJ (N:List aJ) (d:Nat) (f:FuncId) {cal:Operand} {args:Array Operand} {ats:Array TypeId} (avs:List AV) (res:AV) (hcal:rd N cal = .v (.func (.func f) #[] #[])) (hrun:∀ args w,(callFunc f args).run P w = .ok (.enter f args) w)
  (hav:args.toList.map (kM N)=avs) (hno:N.all (fun e=>ig e.2)=true) (hf:bZ P f avs res) (hcl:br res=true) :
  bm P ⟨some d,.call ⟨.value cal,args,ats⟩,ty,pos,aft,gd⟩ N [] [(d,res)] [.slot d]:=by
 refine bm.fresh rfl (fX _ _ hcl) fun g V oN a w hp => ?_
 have hN:=oo N oN hno hp.esN
 subst hN
 have hcv:=cX hp.val hp.esN hcal
 have hr:(execOp a.eval ⟨some d,.call ⟨.value cal,args,ats⟩,ty,pos,aft,gd⟩).run P w = .ok (.enter f (args.map a.eval)) w:=by
  simp [execOp,resolve,hcv,Deferred.ofValue,invoke,hrun]
 have hargs:Rs (dy w g.Imm g.Im) V0 w avs (args.toList.map a.eval) []:=by
  rw [← hav]
  exact gm (g:=g) (g':=dy w g.Imm g.Im) (oN:=[]) rfl (fun b hb=>hb.resolve_right (by simp)) hp.val hp.esN _
 have hc:=hf g.Imm g.Im w _ (fun b hb=>hp.imm b hb) hargs
 have ea:(args.toList.map a.eval).toArray=args.map a.eval:=by rw [← Array.toList_map]
 rw [ea] at hc
 refine Yl.call hr (hc.mono ?_)
 rintro e w' ⟨x,rfl,hchg,Imm',o,hI,hnew,hR,hnd,hfr⟩
 refine ⟨x,rfl,hchg,{ g with Imm:=fun b=>Imm' b },o,⟨rfl,rfl,rfl,rfl,rfl,hI,fun b hb => ?_⟩,hnew,?_,hnd,hfr⟩
 ·rcases hnew b hb with h | h
  ·exact .inl h
  ·exact .inr (.inl (Nat.le_trans hp.base h.1))
 ·exact cF (g:=dy w Imm' g.Im) (g':={ g with Imm:=fun b=>Imm' b }) (fun _ h=>h) res x o hcl (.inl fun _ h=>h) hR
end
end Go.Abs
end
section
namespace Go.Abs
structure IK where
 l:Nat
 D:Nat
 fn:FuncId
 tm:Array Value
 ps:Array Tmp
 asg:Code
 bod:Code
def IK.rc (k:IK) (st:LoopState) (pe:Option Code):Loop:={ state:=st,pending:=pe,fn:=k.fn,tmps:=k.tm,params:=k.ps,assign:=k.asg,body:=k.bod,defers:=k.D }
def Hx (l D:Nat) (rc:Loop):yV where
 P:=fun _ _ o w=>o=[l,D]∧l≠D∧w.heap[l]? = some (.loop rc)∧w.heap[D]? = some (.deferred (some []))
 stab:=fun I M I' M' o w w' _ _ hw h=>by
  obtain ⟨rfl,h1,h2,h3⟩:=h
  exact ⟨rfl,h1,(hw l (.inl (by simp))).trans h2,(hw D (.inl (by simp))).trans h3⟩
theorem qR (e:aJ):cq [] e=true:=by
 simp only [cq,fA,List.any_nil,List.all_nil,Bool.not_false,Bool.true_and,Bool.and_true,Bool.or_true]; exact ix e.2
def Jg (es:List aJ) (tm:Array Value) (l D:Nat) (rc:Loop):yV where
 P:=fun Imm Im o w=>∃ V o1,(∀ t∈es.map (·.1),V (.slot t)=tm.getD t undef)∧o=o1++[l,D]∧Es (dy w Imm Im) V w es o1∧l≠D∧w.heap[l]? = some (.loop rc)∧w.heap[D]? = some (.deferred (some []))
 stab:=fun I M I' M' o w w' hI hM hw h=>by
  obtain ⟨V,o1,h1,rfl,h2,h3,h4,h5⟩:=h
  refine ⟨V,o1,h1,rfl,?_,h3,(hw l (.inl (by simp))).trans h4,(hw D (.inl (by simp))).trans h5⟩
  exact gk (W:=[]) (g:=dy w I M) (g':=dy w' I' M') hI hM (fun _ _=>rfl) es o1 (fun e _=>qR e) (fun b hb=>hw b (by
   rcases hb with hb | hb
   ·exact .inl (by simp [hb])
   ·exact .inr hb)) h2
def IK.ready (k:IK):yV:=Hx k.l k.D (k.rc .ready none)
def IK.J {S O:Type} (k:IK) (I:S→List aJ) (E:O→List aJ):S⊕O→yV
 | .inl s=>Jg (I s) k.tm k.l k.D (k.rc .ready none)
 | .inr o=>Jg (E o) k.tm k.l k.D (k.rc .done (some .ret))
section
variable {P:Program} {Q:Exit→Act→World→Prop} {g0:Gh}
theorem gB.rec {g:Gh} {es:List aJ} {j:Nat} {l D:Nat} {rc:Loop} (rc':Loop) {a:Act} {w:World} (h:gB g (es++[(j,.inv (Hx l D rc))]) a w) :
  w.heap[l]? = some (.loop rc)∧gB g (es++[(j,.inv (Hx l D rc'))]) a (w.putObj l (.loop rc')):=by
 obtain ⟨V,o,hst,hes⟩:=h
 obtain ⟨o1,o2,rfl,h1,o3,o4,rfl,⟨h2,_⟩,rfl⟩:=aZ.1 hes
 simp only [R] at h2
 obtain ⟨rfl,hne,hl,hD⟩:=h2
 simp only [List.append_nil] at hst
 have hlt:l<w.heap.size:=(Array.getElem?_eq_some_iff.1 hl).1
 have hown:=hst.own l (by simp)
 have hnl:l ∉ o1:=fun hm=>(List.nodup_append.1 hst.nodup).2.2 l hm l (by simp) rfl
 refine ⟨hl,V,o1++([l,D]++[]),⟨hst.val,hst.size,hst.defers,hst.dnd,fun E hE => ?_,by simpa using hst.nodup,fun b hb => ?_,fun b hb=>by simpa using hst.imm b hb,?_⟩,aZ.2 ⟨o1,_,rfl,?_,[l,D],[],rfl,⟨?_,trivial⟩,rfl⟩⟩
 ·obtain ⟨k1,k2,k3⟩:=hst.marks E hE
  refine ⟨(World.putObj_heap_other (fun e=>k2 (by simp [e]))).trans k1,by simpa using k2,k3⟩
 ·have:=hst.own b (by simpa using hb)
  exact ⟨by simpa using this.1,this.2⟩
 ·refine hst.chg.trans' (U:=[l]) ⟨rfl,rfl,rfl,by simp,fun k _ hk=>World.putObj_heap_other (by simpa using hk)⟩ (fun x hx => ?_)
  simp at hx; subst hx
  exact hown.2.1.symm
 ·refine gk (W:=[]) (fun _ h=>h) (fun _ h=>h) (fun _ _=>rfl) es o1 (fun e _=>qR e) (fun b hb=>World.putObj_heap_other fun e => ?_) h1
  subst e
  rcases hb with hb | hb
  ·exact hnl hb
  ·exact hown.2.2 hb
 ·simp only [R]
  exact ⟨rfl,hne,World.putObj_heap_same hlt,(World.putObj_heap_other (Ne.symm hne)).trans hD⟩
end
end Go.Abs
end
section
namespace Go.Abs
theorem heap_alloc (w:World) (o:Obj) (k:Nat) (hk:k<w.heap.size):(w.alloc o).heap[k]? = w.heap[k]? := (ep.alloc [] w o).block k hk (by simp)
section
variable {P:Program} {Q:Exit→Act→World→Prop} {g0:Gh}
end
end Go.Abs
end
section
namespace Go.Abs
section
variable {P:Program} {ty:TypeId} {pos:String} {aft:Array Edge} {gd:Option (Nat×Bool)}
end
section
variable {P:Program} {ty:TypeId} {pos:String} {aft:Array Edge} {gd:Option (Nat×Bool)}
end
end Go.Abs
end
section
namespace Go.Abs
namespace Sh
def sA (s sep:LJ):Option Int:=match sep.data.toList with
 | [c]=>some (Lib.indexByte s.data.toList c)
 | _=>none
@[reducible] def re (s sep:LJ):Option Int:=sA s sep
def oE (s:LJ) (c:Int):Option Int:=some (Lib.indexByte s.data.toList c.toNat.toUInt8)
@[reducible] def pu (s:LJ) (c:Int):Option Int:=oE s c
end Sh
section
variable {P:Program} {ty:TypeId} {pos:String} {aft:Array Edge} {gd:Option (Nat×Bool)}
theorem Bc (N T G:List aJ) (W:List bH) (d:Nat) (f:FuncId) {cal:Operand} (xs ys:List Operand) {args:Array Operand} {ats:Array TypeId} (avs posts:List AV) (res:AV) (hcal:rd N cal = .v (.func (.func f) #[] #[])) (hrun:∀ args w,(callFunc f args).run P w = .ok (.enter f args) w)
  (hargs:(xs++ys).toArray=args) (hx:ma (N++T) xs T=true) (hav:ys.map (kM N)=avs) (hf:sv P f (T.map (·.2)++avs) posts res) (hpl:posts.length≤T.length) (hcl:br res=true) (hclT:bq (T.map (·.2))=true) (hclp:bq posts=true)
  (hno:N.all (fun e=>ig e.2)=true) (hdt:T.all (fun e => !Nat.beq e.1 d)=true) (hG:gE T posts++[(d,res)]=G) (hW:bH.slot d::jF (gE T posts)=W) :
  bm P ⟨some d,.call ⟨.value cal,args,ats⟩,ty,pos,aft,gd⟩ N T G W:=by
 subst hG hW hargs
 refine bm.core fun g V oN oT a w hd hp => ?_
 have hN:=oo N oN hno hp.esN
 have hcv:=cX hp.val hp.esN hcal
 have hr:(execOp a.eval ⟨some d,.call ⟨.value cal,(xs++ys).toArray,ats⟩,ty,pos,aft,gd⟩).run P w = .ok (.enter f ((xs++ys).toArray.map a.eval)) w:=by
  simp [execOp,resolve,hcv,Deferred.ofValue,invoke,hrun]
 have hxe:=jM hp.val (aZ.2 ⟨oN,oT,rfl,hp.esN,hp.esT⟩) hx
 have hR:Rs (dy w g.Imm (fun b=>g.Im b∨b∈oN)) V0 w (T.map (·.2)++avs) ((xs++ys).map a.eval) oT:=by
  rw [List.map_append,hxe]
  refine cU.2 ⟨_,_,oT,[],rfl,by simp,?_,?_⟩
  ·exact cc (g:=g) (g':=dy w g.Imm (fun b=>g.Im b∨b∈oN)) (fun _ h=>h) _ _ oT hclT (.inl fun b hb => .inl hb) (wv hp.esT)
  ·rw [← hav]
   exact gm (g:=g) (g':=dy w g.Imm (fun b=>g.Im b∨b∈oN)) rfl (fun b hb=>hb) hp.val hp.esN _
 have hnd:=hp.nodup
 have hob:∀ b∈oT,b<w.heap.size∧¬ (g.Imm b∨g.Im b∨b∈oN):=by
  intro b hb
  have h1:=hp.own b (by simp [hb])
  refine ⟨h1.1,?_⟩
  rintro (h | h | h)
  ·exact h1.2 (.inl h)
  ·exact h1.2 (.inr h)
  ·exact (List.nodup_append.1 hnd).2.2 b h b hb rfl
 have hc:=hf g.Imm (fun b=>g.Im b∨b∈oN) w _ oT (fun b hb=>by
  rcases hb with hb | hb | hb
  ·exact hp.imm b (.inl hb)
  ·exact hp.imm b (.inr hb)
  ·exact (hp.own b (by simp [hb])).1) hR (List.nodup_append.1 hnd).2.1 hob
 have ea:((xs++ys).map a.eval).toArray=(xs++ys).toArray.map a.eval:=by simp
 rw [ea] at hc
 have hlt:d<g.n:=hd d rfl
 refine Yl.call hr (hc.mono ?_)
 rintro e' w' ⟨y,rfl,hchg,Imm',o,hI,hnew,hRr,hndo,hfr⟩
 have htake:((xs++ys).map a.eval).take posts.length=(T.map fun e=>V (.slot e.1)).take posts.length:=by
  rw [List.map_append,hxe,List.take_append_of_le_length (by simp [hpl])]
 simp only [htake,Rs] at hRr
 obtain ⟨y',mR,o1,o2,hyv,rfl,hR1,hR2⟩:=hRr
 obtain ⟨rfl,rfl⟩:=List.cons.inj hyv
 let V1:bH→Value:=fun l=>match l with
  | .slot u=>if u=d then y else V (.slot u)
  | .cell u i=>if u=d then fU w' y i else if bH.cell u i∈jF (gE T posts) then fU w' (V (.slot u)) i else V (.cell u i)
 have hV1:∀ l,fA (.slot d::jF (gE T posts)) l=false→V1 l=V l:=by
  intro l hl
  simp only [fA,List.any_cons,Bool.or_eq_false_iff] at hl
  cases l with
  | slot u =>
   have:u≠d:=fun e=>by subst e; simp at hl
   simp [V1,this]
  | cell u i =>
   have h1:u≠d:=fun e=>by subst e; simp at hl
   have h2:bH.cell u i ∉ jF (gE T posts):=fun hm=>by
    have:=List.any_eq_false.1 hl.2 _ hm
    simp at this
   simp [V1,h1,h2]
 have hTd:∀ e∈T,e.1≠d:=fun e he hed=>by
  have:=List.all_eq_true.1 hdt e he
  rw [hed,Nat.beq_refl] at this; cases this
 have hslotT:(T.map fun e=>V1 (.slot e.1))=T.map fun e=>V (.slot e.1):=List.map_congr_left fun e he=>by simp [V1,hTd e he]
 have hzT:∀ {T:List aJ} {ps:List AV} {t:Nat} {av:AV},(t,av)∈gE T ps→∃ e∈T,e.1=t:=by
  intro T
  induction T with
  | nil=>intro ps t av h; cases ps <;> cases h
  | cons e T ih =>
   intro ps t av h
   cases ps with
   | nil=>cases h
   | cons p ps =>
    rcases List.mem_cons.1 h with h | h
    ·cases h; exact ⟨e,by simp,rfl⟩
    ·obtain ⟨e',h1,h2⟩:=ih h; exact ⟨e',by simp [h1],h2⟩
 refine ⟨y,rfl,{ g with Imm:=fun b=>Imm' b },V1,o2++o1,⟨rfl,rfl,rfl,rfl,rfl,hI,fun b hb => ?_⟩,fun b hb => ?_,fun b hb => ?_,hchg,hV1,?_,?_,?_,fun b hb => ?_⟩
 ·rcases hnew b hb with h | h | h
  ·exact .inl h
  ·exact .inr (hp.own2 b (by simp [h]))
  ·exact .inr (.inl (Nat.le_trans hp.base h.1))
 ·rcases hnew b hb with h | h | h
  ·exact .inl h
  ·exact .inr (.inl h)
  ·exact .inr (.inr h.1)
 ·rcases hnew b hb with h | h | h
  ·exact Nat.lt_of_lt_of_le (hp.imm b (.inl h)) hchg.size
  ·exact Nat.lt_of_lt_of_le (hob b h).1 hchg.size
  ·exact h.2
 ·intro t
  rw [gM a d t y (by rw [hp.size]; exact hlt)]
  simp only [V1]
  split
  ·rfl
  ·exact hp.val t
 ·refine aZ.2 ⟨o2,o1,rfl,?_,o1,[],by simp,⟨?_,?_⟩,rfl⟩
  ·refine pf (V:=V) hpl ?_ ?_
   ·rw [hslotT]
    exact cc (g:=dy w Imm' (fun b=>g.Im b∨b∈oN)) (g':={ g with Imm:=fun b=>Imm' b }) (fun _ h=>h) _ _ o2 hclp (.inl fun b hb=>hb.resolve_right (by rw [hN]; simp)) hR2
   ·intro t T' cs hm b zs hb hh hsz i hi
    obtain ⟨e,he,rfl⟩:=hzT hm
    have htd:=hTd e he
    have hb':V (.slot e.1) = .pointer (some ⟨b,0,none⟩):=by simpa [V1,htd] using hb
    have hmem:=lW hm hi
    simp only [V1,htd,if_false,hmem,if_true,hb']
    obtain ⟨zl⟩:=zs
    exact eH hh (by simpa using (show i<zl.length by simp at hsz; omega))
  ·show R _ _ _ res (V1 (.slot d)) o1
   rw [show V1 (.slot d)=y by simp [V1]]
   exact cF (g:=dy w Imm' (fun b=>g.Im b∨b∈oN)) (g':={ g with Imm:=fun b=>Imm' b }) (fun _ h=>h) res y o1 hcl (.inl fun b hb=>hb.resolve_right (by rw [hN]; simp)) hR1
  ·cases res <;> try trivial
   case box T' cs =>
    intro b hb i hi
    dsimp only at hb hi ⊢
    rw [show V1 (.slot d)=y by simp [V1]] at hb
    simp only [R] at hR1
    obtain ⟨b',zs,os,hx',_,hh,hrs⟩:=hR1
    rw [hb] at hx'; cases hx'
    simp only [V1,if_true,hb]
    exact eH hh (by rw [aU hrs]; exact hi)
 ·exact List.perm_append_comm.nodup_iff.1 hndo
 ·obtain ⟨h1,h2,h3⟩:=hfr b (by rcases List.mem_append.1 hb with h | h <;> simp [h])
  refine ⟨h1,h2,?_⟩
  rintro (h | h)
  ·exact h3 h
  ·rcases h1 with h1 | h1
   ·exact (hob b h1).2 (.inr (.inl h))
   ·exact absurd (hp.imm b (.inr h)) (by omega)
def EO (by_:Nat) (c:Int):Option Unit:=if 0≤c∧by_ * c.toNat≤140737488355328 then some () else none
end
theorem Ba {H:Type} {enc:TypeId×Value→H} {P:Program} {w:World} {base:Nat} {spare:Nat→Bool} {held:Bool} {fuel t:Nat} {k:IntKind} {x:Int} {cs:List Value} {p:List MemPlace} (ht:P.underlying t=some (.int k))
  (h:DataW.trod enc P w base spare held fuel t cs=some (.lit (.int k x),p)):cs=[.int k x]:=by
 obtain ⟨n,h1,h2,_⟩:=DataW.trod_int ht h
 have h3:n=x:=by simpa using (Prod.mk.inj h2).1.symm
 rw [h1,h3]
theorem sb {α:Type} (c:Nat):∀ (rs:List (List α)) (cs:List α),cs.length=rs.length * c→(∀ (i:Nat) (r:List α),rs[i]? = some r→(cs.drop (i * c)).take c=r)→cs=rs.flatten
 | [],cs,hl,_=>by simpa using hl
 | r::rs,cs,hl,h=>by
  have h0:=h 0 r rfl
  simp only [Nat.zero_mul,List.drop_zero] at h0
  have ih:=sb c rs (cs.drop c) (by simp only [List.length_drop,hl,List.length_cons,Nat.succ_mul]; omega) (fun i q hq=>by
   have:=h (i+1) q (by simpa using hq)
   rw [List.drop_drop]
   rwa [Nat.succ_mul,Nat.add_comm] at this)
  rw [List.flatten_cons,← ih,← h0,List.take_append_drop]
theorem Cy {α β:Type} (f:α→β):∀ l:List α,(l.map fun x=>[f x]).flatten=l.map f
 | []=>rfl
 | a::l=>by simp [Cy f l]
theorem Ks {H:Type} {enc:TypeId×Value→H} {P:Program} {w:World} {base:Nat} {spare:Nat→Bool} {held:Bool} {fuel t e n:Nat} {k:IntKind} {ns:List Int} {cs:List Value} {p:List MemPlace}
  (ht:P.underlying t=some (.array n e)) (he:P.underlying e=some (.int k)) (hc:P.cellsOf e=1) (hn:P.cellsOf t=n)
  (h:DataW.trod enc P w base spare held fuel t cs=some (.agg (ns.map fun x => .lit (.int k x)),p)):cs=ns.map (Value.int k):=by
 obtain ⟨xs,m,_,hx,hl,hxs,hel⟩:=DataW.trod_array ht h
 have hx':xs.map (·.1)=ns.map fun x=>(.lit (.int k x):DataW H):=(DataW.agg.inj (Prod.mk.inj hx).1).symm
 have hln:ns.length=n:=by have:=congrArg List.length hx'; simp only [List.length_map] at this; omega
 have:=sb 1 (ns.map fun x=>[Value.int k x]) cs (by simp only [List.length_map]; omega) (fun i r hr=>by
  simp only [List.getElem?_map,Option.map_eq_some_iff] at hr
  obtain ⟨x,hx1,rfl⟩:=hr
  have hi:i<n:=by have:=(List.getElem?_eq_some_iff.1 hx1).1; omega
  have h1:=hel i hi
  rw [hc] at h1
  have h2:(xs.map (·.1))[i]? = some (.lit (.int k x)):=by rw [hx']; simp [hx1]
  rw [List.getElem?_map,Option.map_eq_some_iff] at h2
  obtain ⟨⟨y,q⟩,h3,h4⟩:=h2
  rw [h3] at h1
  cases h4
  exact Ba he h1)
 rw [this,Cy]
theorem yB {P:Program} {W:World} {n:String} {g:Nat} {cs:Array Value} {vs:List Value} (hg:P.globalNamed n=some g) (hv:W.var? P n=some cs) (h:cs.toList=vs) :
  ∀ j,W.cell? ⟨g,j,none⟩=vs[j]? := by
 intro j
 rw [World.var?_cell hg hv j,← h]
 simp
end Go.Abs
end
section
namespace Go.Abs
set_option linter.unusedVariables false
namespace Sh
end Sh
def gD (w:World):Gh:=⟨0,w,[],fun _=>False,fun _=>False,[]⟩
theorem tQ {g g':Gh} {V V':bH→Value} {w:World} {e:TypeId} {z:Nat} {xs:List Value} {x:Value} {o:List Nat} (h:R g V w (.fl (.own e) z xs) x o):R g' V' w (.fl (.own e) z xs) x o:=by
 simp only [R,cm] at *; exact h
theorem Ef {g:Gh} {V:bH→Value} {w w':World} {e:TypeId} {z:Nat} {xs:List Value} {x:Value} {o:List Nat} (hw:∀ b,b∈o→w'.heap[b]? = w.heap[b]?) (h:R g V w (.fl (.own e) z xs) x o):R g V w' (.fl (.own e) z xs) x o :=
 tQ (fE (g:=gD w) (g':=gD w) (V:=V) (V':=V) (W:=[]) (fun _ h=>h) (fun _ h=>h) (fun _ _=>rfl) (.fl (.own e) z xs) x o rfl (fun b hb=>hb.elim (hw b) (fun h=>h.elim False.elim False.elim)) (tQ h))
def Iq (T e:TypeId) (u:Bool) (v:Value) (xs:List Value) (x:Value) (o:List Nat) (w:World):Prop :=
 ∃ (b:Nat) (p:Value) (o2:List Nat),x = .pointer (some ⟨b,0,none⟩)∧o=b::o2∧w.heap[b]? = some (.cells #[p,v] T (0,0))∧(p = .pointer (some ⟨b,0,none⟩)∨(u=false∧p = .pointer none))∧R (gD w) V0 w (.fl (.own e) 1 xs) v o2
theorem Iq.stab {T e:TypeId} {u:Bool} {v:Value} {xs:List Value} {x:Value} {o:List Nat} {w w':World} (h:Iq T e u v xs x o w) (hw:∀ b∈o,w'.heap[b]? = w.heap[b]?):Iq T e u v xs x o w':=by
 obtain ⟨b,p,o2,h1,rfl,h3,h4,h5⟩:=h
 exact ⟨b,p,o2,h1,rfl,by rw [hw b (by simp)]; exact h3,h4,tQ (Ef (fun c hc=>hw c (by simp [hc])) h5)⟩
section
variable {g:Gh} {P:Program} {Q:Exit→Act→World→Prop} {g0:Gh} {rnd:Option Nat}
end
section
variable {P:Program}
end
section
variable {P:Program} {ty:TypeId} {pos:String} {aft:Array Edge} {gd:Option (Nat×Bool)}
end
namespace Sh
end Sh
namespace Sh
end Sh
def xD (P:Program) (gl:List (Nat×List Value)) (f:FuncId) (args posts:List AV) (res:AV):Prop :=
 ∀ (Imm Im:Nat→Prop) (w:World) (xs:List Value) (o0:List Nat),(∀ b,Imm b∨Im b→b<w.heap.size)→Gx gl (fun b=>Imm b∨Im b) w→Rs (dy w Imm Im) V0 w args xs o0→o0.Nodup→(∀ b∈o0,b<w.heap.size∧¬ (Imm b∨Im b)) →
  Calls P f xs.toArray w (EJ xs posts o0 Imm Im w res)
theorem xD.args {P:Program} {gl:List (Nat×List Value)} {f:FuncId} {args args' posts:List AV} {res:AV} (h:xD P gl f args' posts res) (hs:pH args args'):xD P gl f args posts res:=fun Imm Im w xs o0 hi hg hr=>h Imm Im w xs o0 hi hg (hs _ _ _ _ _ hr)
section
variable {P:Program} {Q:Exit→Act→World→Prop} {g0:Gh} {rnd:Option Nat}
theorem FN {gl:List (Nat×List Value)} {f:FuncId} {fn:Func} {c:Code} {args posts:List AV} {res:AV} (hf:P.funcs[f]? = some fn) (hb:fn.body=some c) (hk:args.length≤fn.ntmps) (hcl:bq args=true) (hpl:posts.length≤args.length)
  (h:∀ (xs:List Value),posts.length≤xs.length→∀ g0:Gh,g0.n=fn.ntmps→g0.ds=[]→HT none P (vl P fn xs posts g0.io g0.Imm g0.Im g0.w0 res) g0 c (cZ args++(gj posts.length xs++[(fn.ntmps,.glob gl)]))):xD P gl f args posts res:=by
 intro Imm Im w xs o0 himm hgl hR hnd ho0
 have hlen:=aU hR
 refine calls_of_wp hf hb ((wpIn_wide (n:=0)).1 ?_)
 have hg:=h xs (by omega) ⟨fn.ntmps,w,o0,Imm,Im,[]⟩ rfl rfl ⟨fn.ntmps,w,o0,Imm,Im,[]⟩ { tmps:=xs.toArray++Array.replicate (fn.ntmps-xs.toArray.size) undef,defers:=[] } w (Gh.le_refl _)
 let V:bH→Value:=fun l=>match l with | .slot t=>(xs.toArray++Array.replicate (fn.ntmps-xs.toArray.size) undef).getD t undef | .cell t i=>fU w ((xs.toArray++Array.replicate (fn.ntmps-xs.toArray.size) undef).getD t undef) i
 have hslot:∀ i x,xs[i]? = some x→V (.slot i)=x:=by
  intro i x hx
  have hi:=(List.getElem?_eq_some_iff.1 hx).1
  simp only [V,Array.getD_eq_getD_getElem?]
  rw [Array.getElem?_append_left (by simpa using hi)]
  simp [hx]
 refine hg ⟨V,o0,⟨fun _=>rfl,?_,rfl,List.nodup_nil,by simp,hnd,fun b hb=>⟨(ho0 b hb).1,.inr hb,(ho0 b hb).2⟩,himm,ep.refl _ _⟩,aZ.2 ⟨o0,[],by simp,?_,aZ.2 ⟨[],[],rfl,tN _ ?_,⟨[],[],rfl,⟨by simp only [R]; exact ⟨hgl,trivial⟩,trivial⟩,rfl⟩⟩⟩⟩
 ·simp; omega
 ·unfold cZ
  refine rG (g:=⟨fn.ntmps,w,o0,Imm,Im,[]⟩) (fun av x o hc hr=>cF (fun _ h=>h) av x o hc (.inl fun _ h=>h) hr) (fun _ _=>rfl) args xs 0 o0 hcl ?_ ?_
  ·exact cc (g:=dy w Imm Im) (g':=⟨fn.ntmps,w,o0,Imm,Im,[]⟩) (V:=V0) (V':=V0) (fun _ h=>h) args xs o0 hcl (.inl fun _ h=>h) hR
  ·intro i x hx; rw [Nat.zero_add]; exact hslot i x hx
 ·intro i hi
  rw [List.mem_range] at hi
  have hi':i<xs.length:=by omega
  rw [hslot i xs[i] (List.getElem?_eq_getElem hi')]
  simp [List.getD,hi']
end
section
variable {P:Program} {ty:TypeId} {pos:String} {aft:Array Edge} {gd:Option (Nat×Bool)}
theorem xy (N T G:List aJ) (W:List bH) (d n:Nat) (f:FuncId) {gl gl':List (Nat×List Value)} {cal:Operand} (xs ys:List Operand) {args:Array Operand} {ats:Array TypeId} (avs posts:List AV) (res:AV) (hcal:rd N cal = .v (.func (.func f) #[] #[])) (hrun:∀ args w,(callFunc f args).run P w = .ok (.enter f args) w)
  (hargs:(xs++ys).toArray=args) (hx:ma (N++T) xs T=true) (hav:ys.map (kM N)=avs) (hgl:look N n = .glob gl') (hsub:∀ p∈gl,p∈gl') (hf:xD P gl f (T.map (·.2)++avs) posts res) (hpl:posts.length≤T.length) (hcl:br res=true) (hclT:bq (T.map (·.2))=true) (hclp:bq posts=true)
  (hno:N.all (fun e=>ig e.2)=true) (hdt:T.all (fun e => !Nat.beq e.1 d)=true) (hG:gE T posts++[(d,res)]=G) (hW:bH.slot d::jF (gE T posts)=W) :
  bm P ⟨some d,.call ⟨.value cal,args,ats⟩,ty,pos,aft,gd⟩ N T G W:=by
 subst hG hW hargs
 refine bm.core fun g V oN oT a w hd hp => ?_
 have hN:=oo N oN hno hp.esN
 have hcv:=cX hp.val hp.esN hcal
 have hr:(execOp a.eval ⟨some d,.call ⟨.value cal,(xs++ys).toArray,ats⟩,ty,pos,aft,gd⟩).run P w = .ok (.enter f ((xs++ys).toArray.map a.eval)) w:=by
  simp [execOp,resolve,hcv,Deferred.ofValue,invoke,hrun]
 have hxe:=jM hp.val (aZ.2 ⟨oN,oT,rfl,hp.esN,hp.esT⟩) hx
 have hR:Rs (dy w g.Imm (fun b=>g.Im b∨b∈oN)) V0 w (T.map (·.2)++avs) ((xs++ys).map a.eval) oT:=by
  rw [List.map_append,hxe]
  refine cU.2 ⟨_,_,oT,[],rfl,by simp,?_,?_⟩
  ·exact cc (g:=g) (g':=dy w g.Imm (fun b=>g.Im b∨b∈oN)) (fun _ h=>h) _ _ oT hclT (.inl fun b hb => .inl hb) (wv hp.esT)
  ·rw [← hav]
   exact gm (g:=g) (g':=dy w g.Imm (fun b=>g.Im b∨b∈oN)) rfl (fun b hb=>hb) hp.val hp.esN _
 have hnd:=hp.nodup
 have hob:∀ b∈oT,b<w.heap.size∧¬ (g.Imm b∨g.Im b∨b∈oN):=by
  intro b hb
  have h1:=hp.own b (by simp [hb])
  refine ⟨h1.1,?_⟩
  rintro (h | h | h)
  ·exact h1.2 (.inl h)
  ·exact h1.2 (.inr h)
  ·exact (List.nodup_append.1 hnd).2.2 b h b hb rfl
 obtain ⟨og,_,hRg,_⟩:=eo hp.esN n
 dsimp only at hRg
 rw [hgl] at hRg
 simp only [R] at hRg
 have hc:=hf g.Imm (fun b=>g.Im b∨b∈oN) w _ oT (fun b hb=>by
  rcases hb with hb | hb | hb
  ·exact hp.imm b (.inl hb)
  ·exact hp.imm b (.inr hb)
  ·exact (hp.own b (by simp [hb])).1) (fun p hp'=>⟨(hRg.1 p (hsub p hp')).1.imp id .inl,(hRg.1 p (hsub p hp')).2⟩) hR (List.nodup_append.1 hnd).2.1 hob
 have ea:((xs++ys).map a.eval).toArray=(xs++ys).toArray.map a.eval:=by simp
 rw [ea] at hc
 have hlt:d<g.n:=hd d rfl
 refine Yl.call hr (hc.mono ?_)
 rintro e' w' ⟨y,rfl,hchg,Imm',o,hI,hnew,hRr,hndo,hfr⟩
 have htake:((xs++ys).map a.eval).take posts.length=(T.map fun e=>V (.slot e.1)).take posts.length:=by
  rw [List.map_append,hxe,List.take_append_of_le_length (by simp [hpl])]
 simp only [htake,Rs] at hRr
 obtain ⟨y',mR,o1,o2,hyv,rfl,hR1,hR2⟩:=hRr
 obtain ⟨rfl,rfl⟩:=List.cons.inj hyv
 let V1:bH→Value:=fun l=>match l with
  | .slot u=>if u=d then y else V (.slot u)
  | .cell u i=>if u=d then fU w' y i else if bH.cell u i∈jF (gE T posts) then fU w' (V (.slot u)) i else V (.cell u i)
 have hV1:∀ l,fA (.slot d::jF (gE T posts)) l=false→V1 l=V l:=by
  intro l hl
  simp only [fA,List.any_cons,Bool.or_eq_false_iff] at hl
  cases l with
  | slot u =>
   have:u≠d:=fun e=>by subst e; simp at hl
   simp [V1,this]
  | cell u i =>
   have h1:u≠d:=fun e=>by subst e; simp at hl
   have h2:bH.cell u i ∉ jF (gE T posts):=fun hm=>by
    have:=List.any_eq_false.1 hl.2 _ hm
    simp at this
   simp [V1,h1,h2]
 have hTd:∀ e∈T,e.1≠d:=fun e he hed=>by
  have:=List.all_eq_true.1 hdt e he
  rw [hed,Nat.beq_refl] at this; cases this
 have hslotT:(T.map fun e=>V1 (.slot e.1))=T.map fun e=>V (.slot e.1):=List.map_congr_left fun e he=>by simp [V1,hTd e he]
 have hzT:∀ {T:List aJ} {ps:List AV} {t:Nat} {av:AV},(t,av)∈gE T ps→∃ e∈T,e.1=t:=by
  intro T
  induction T with
  | nil=>intro ps t av h; cases ps <;> cases h
  | cons e T ih =>
   intro ps t av h
   cases ps with
   | nil=>cases h
   | cons p ps =>
    rcases List.mem_cons.1 h with h | h
    ·cases h; exact ⟨e,by simp,rfl⟩
    ·obtain ⟨e',h1,h2⟩:=ih h; exact ⟨e',by simp [h1],h2⟩
 refine ⟨y,rfl,{ g with Imm:=fun b=>Imm' b },V1,o2++o1,⟨rfl,rfl,rfl,rfl,rfl,hI,fun b hb => ?_⟩,fun b hb => ?_,fun b hb => ?_,hchg,hV1,?_,?_,?_,fun b hb => ?_⟩
 ·rcases hnew b hb with h | h | h
  ·exact .inl h
  ·exact .inr (hp.own2 b (by simp [h]))
  ·exact .inr (.inl (Nat.le_trans hp.base h.1))
 ·rcases hnew b hb with h | h | h
  ·exact .inl h
  ·exact .inr (.inl h)
  ·exact .inr (.inr h.1)
 ·rcases hnew b hb with h | h | h
  ·exact Nat.lt_of_lt_of_le (hp.imm b (.inl h)) hchg.size
  ·exact Nat.lt_of_lt_of_le (hob b h).1 hchg.size
  ·exact h.2
 ·intro t
  rw [gM a d t y (by rw [hp.size]; exact hlt)]
  simp only [V1]
  split
  ·rfl
  ·exact hp.val t
 ·refine aZ.2 ⟨o2,o1,rfl,?_,o1,[],by simp,⟨?_,?_⟩,rfl⟩
  ·refine pf (V:=V) hpl ?_ ?_
   ·rw [hslotT]
    exact cc (g:=dy w Imm' (fun b=>g.Im b∨b∈oN)) (g':={ g with Imm:=fun b=>Imm' b }) (fun _ h=>h) _ _ o2 hclp (.inl fun b hb=>hb.resolve_right (by rw [hN]; simp)) hR2
   ·intro t T' cs hm b zs hb hh hsz i hi
    obtain ⟨e,he,rfl⟩:=hzT hm
    have htd:=hTd e he
    have hb':V (.slot e.1) = .pointer (some ⟨b,0,none⟩):=by simpa [V1,htd] using hb
    have hmem:=lW hm hi
    simp only [V1,htd,if_false,hmem,if_true,hb']
    obtain ⟨zl⟩:=zs
    exact eH hh (by simpa using (show i<zl.length by simp at hsz; omega))
  ·show R _ _ _ res (V1 (.slot d)) o1
   rw [show V1 (.slot d)=y by simp [V1]]
   exact cF (g:=dy w Imm' (fun b=>g.Im b∨b∈oN)) (g':={ g with Imm:=fun b=>Imm' b }) (fun _ h=>h) res y o1 hcl (.inl fun b hb=>hb.resolve_right (by rw [hN]; simp)) hR1
  ·cases res <;> try trivial
   case box T' cs =>
    intro b hb i hi
    dsimp only at hb hi ⊢
    rw [show V1 (.slot d)=y by simp [V1]] at hb
    simp only [R] at hR1
    obtain ⟨b',zs,os,hx',_,hh,hrs⟩:=hR1
    rw [hb] at hx'; cases hx'
    simp only [V1,if_true,hb]
    exact eH hh (by rw [aU hrs]; exact hi)
 ·exact List.perm_append_comm.nodup_iff.1 hndo
 ·obtain ⟨h1,h2,h3⟩:=hfr b (by rcases List.mem_append.1 hb with h | h <;> simp [h])
  refine ⟨h1,h2,?_⟩
  rintro (h | h)
  ·exact h3 h
  ·rcases h1 with h1 | h1
   ·exact (hob b h1).2 (.inr (.inl h))
   ·exact absurd (hp.imm b (.inr h)) (by omega)
end
namespace Sh
end Sh
section
variable {P:Program} {ty:TypeId} {pos:String} {aft:Array Edge} {gd:Option (Nat×Bool)}
end
section
variable {P:Program} {ty:TypeId} {pos:String} {aft:Array Edge} {gd:Option (Nat×Bool)}
theorem kq (N:List aJ) (d f t:Nat) (h:d≠t):bm P ⟨some d,.makeFunc (.func f) #[] #[.tmp t],ty,pos,aft,gd⟩ N [] [(d,.clo f [t])] [.slot d]:=by
 refine bm.value rfl (by simp [eO,fA,h]) rfl fun g V oN a w hp=>⟨.func (.func f) #[] #[V (.slot t)],?_,by simp [R]⟩
 have:=hp.val t
 simp [execOp,Instr.makeFunc,Act.eval,this]
theorem Gy {g:Gh} {V:bH→Value} {w:World}:∀ {cs ys:List Value} {o:List Nat},Rs g V w (cs.map .v) ys o→ys=cs
 | [],_,_,h=>by simp only [List.map_nil,Rs] at h; exact h.1
 | c::cs,_,_,h=>by
  simp only [List.map_cons,Rs,R] at h
  obtain ⟨x,l,o1,o2,rfl,_,⟨rfl,_⟩,h2⟩:=h
  rw [Gy h2]
theorem Eg (N:List aJ) (d t u:Nat) (f fc:FuncId) {cal:Operand} {args:Array Operand} {ats:Array TypeId} {T:TypeId} (cs:List Value) (xs:List Operand) (avs:List AV) (res:AV) (hcal:rd N cal = .v (.func (.func f) #[] #[])) (hrun:∀ args w,(callFunc f args).run P w = .ok (.enter f args) w)
  (hargs:(xs++[Operand.tmp u]).toArray=args) (hav:xs.map (kM N)=avs) (hu:look N u = .clo fc [t]) (hb:look N t = .box T (cs.map .v))
  (hf:∀ b,pp P [(b,cs)] f (avs++[.v (.func (.func fc) #[] #[.pointer (some ⟨b,0,none⟩)])]) res) (hcl:br res=true) (hsh:fw res=true) :
  bm P ⟨some d,.call ⟨.value cal,args,ats⟩,ty,pos,aft,gd⟩ N [] [(d,res)] [.slot d]:=by
 subst hargs
 refine bm.fresh rfl (fX _ _ hcl) fun g V oN a w hp => ?_
 have hcv:=cX hp.val hp.esN hcal
 have hr:(execOp a.eval ⟨some d,.call ⟨.value cal,(xs++[Operand.tmp u]).toArray,ats⟩,ty,pos,aft,gd⟩).run P w = .ok (.enter f ((xs++[Operand.tmp u]).toArray.map a.eval)) w:=by
  simp [execOp,resolve,hcv,Deferred.ofValue,invoke,hrun]
 obtain ⟨b,ys,os,hV,hh,hrs,_,hmem⟩:=mh hp.esN hb
 obtain rfl:=Gy hrs
 obtain ⟨oc,_,hce,_⟩:=eo hp.esN u
 dsimp only at hce
 rw [hu] at hce
 simp only [R,List.map_cons,List.map_nil] at hce
 have hev:a.eval (Operand.tmp u) = .func (.func fc) #[] #[.pointer (some ⟨b,0,none⟩)]:=by
  have:=hp.val u
  simp only [Act.eval]
  rw [← this,hce.1,hV]
 have hargs:Rs (dy w g.Imm (fun b=>g.Im b∨b∈oN)) V0 w (avs++[.v (.func (.func fc) #[] #[.pointer (some ⟨b,0,none⟩)])]) ((xs++[Operand.tmp u]).map a.eval) []:=by
  rw [List.map_append]
  refine cU.2 ⟨_,_,[],[],rfl,rfl,?_,?_⟩
  ·rw [← hav]
   exact gm (g:=g) (g':=dy w g.Imm (fun b=>g.Im b∨b∈oN)) rfl (fun b hb=>hb) hp.val hp.esN _
  ·simp only [List.map_cons,List.map_nil,Rs,R,hev]
   exact ⟨_,_,[],[],rfl,rfl,⟨rfl,rfl⟩,rfl,rfl⟩
 have hc:=hf b g.Imm (fun b=>g.Im b∨b∈oN) w _ (fun b hb=>by
  rcases hb with hb | hb | hb
  ·exact hp.imm b (.inl hb)
  ·exact hp.imm b (.inr hb)
  ·exact (hp.own b (by simp [hb])).1) (fun p hp'=>by
  simp only [List.mem_cons,List.not_mem_nil,or_false] at hp'
  subst hp'
  refine ⟨.inr (.inr (hmem b (by simp))),fun j => ?_⟩
  rw [cell_of_row w b j _ T (0,0) hh]
  simp) hargs
 have ea:((xs++[Operand.tmp u]).map a.eval).toArray=(xs++[Operand.tmp u]).toArray.map a.eval:=by simp
 rw [ea] at hc
 refine Yl.call hr (hc.mono ?_)
 rintro e w' ⟨x,rfl,hchg,Imm',o,hI,hnew,hR,hnd,hfr⟩
 refine ⟨x,rfl,hchg,{ g with Imm:=fun b=>Imm' b },o,⟨rfl,rfl,rfl,rfl,rfl,hI,fun b hb => ?_⟩,hnew,?_,hnd,hfr⟩
 ·rcases hnew b hb with h | h
  ·exact .inl h
  ·exact .inr (.inl (Nat.le_trans hp.base h.1))
 ·exact cF (g:=dy w Imm' (fun b=>g.Im b∨b∈oN)) (g':={ g with Imm:=fun b=>Imm' b }) (fun _ h=>h) res x o hcl (.inr hsh) hR
theorem mb (N:List aJ) (d:Nat) {s:TypeId} (x:Operand) (i:Nat) {fs:Array Field} {f:Field} (b off k2:Nat) {k:Nat} (hT:P.underlying s=some (.struct fs)) (hf:fs[i]? = some f) (hk:(P.info? f.type).map (·.size)=some (k+1))
  (hx:rd N x = .v (.pointer (some ⟨b,off,none⟩))) (hk2:off+f.offset=k2):bm P ⟨some d,.fieldAddr s x i,ty,pos,aft,gd⟩ N [] [(d,.v (.pointer (some ⟨b,k2,none⟩)))] [.slot d]:=by
 subst hk2
 refine bm.v rfl fun g V oN a w hp => ?_
 have h2:=cX hp.val hp.esN hx
 simp [execOp,Instr.fieldAt,Sem.run_bind,run_underlying hT,hf,h2,Instr.sureAddr,fieldPlace,bT hk,dv]
theorem CB (N:List aJ) (d n:Nat) (f:FuncId) {gl gl':List (Nat×List Value)} {cal:Operand} {args:Array Operand} {ats:Array TypeId} (cap:Value) (avs:List AV) (res:AV) (hcal:rd N cal = .v (.func (.func f) #[] #[cap])) (hrun:∀ args w,(callFunc f args).run P w = .ok (.enter f args) w)
  (hav:args.toList.map (kM N)=avs) (hgl:look N n = .glob gl') (hsub:∀ p∈gl,p∈gl') (hf:pp P gl f (avs++[.v cap]) res) (hcl:br res=true) (hsh:fw res=true) :
  bm P ⟨some d,.call ⟨.value cal,args,ats⟩,ty,pos,aft,gd⟩ N [] [(d,res)] [.slot d]:=by
 refine bm.fresh rfl (fX _ _ hcl) fun g V oN a w hp => ?_
 have hcv:=cX hp.val hp.esN hcal
 have hr:(execOp a.eval ⟨some d,.call ⟨.value cal,args,ats⟩,ty,pos,aft,gd⟩).run P w = .ok (.enter f (args.map a.eval ++ #[cap])) w:=by
  simp [execOp,resolve,hcv,Deferred.ofValue,invoke,hrun]
 have hargs:Rs (dy w g.Imm (fun b=>g.Im b∨b∈oN)) V0 w (avs++[.v cap]) (args.toList.map a.eval++[cap]) []:=by
  refine cU.2 ⟨_,_,[],[],rfl,rfl,?_,?_⟩
  ·rw [← hav]
   exact gm (g:=g) (g':=dy w g.Imm (fun b=>g.Im b∨b∈oN)) rfl (fun b hb=>hb) hp.val hp.esN _
  ·simp only [Rs,R]
   exact ⟨_,_,[],[],rfl,rfl,⟨rfl,rfl⟩,rfl,rfl⟩
 obtain ⟨og,_,hRg,_⟩:=eo hp.esN n
 dsimp only at hRg
 rw [hgl] at hRg
 simp only [R] at hRg
 have hc:=hf g.Imm (fun b=>g.Im b∨b∈oN) w _ (fun b hb=>by
  rcases hb with hb | hb | hb
  ·exact hp.imm b (.inl hb)
  ·exact hp.imm b (.inr hb)
  ·exact (hp.own b (by simp [hb])).1) (fun p hp'=>by
  obtain ⟨h1,h2⟩:=hRg.1 p (hsub p hp')
  exact ⟨h1.imp id .inl,h2⟩) hargs
 have ea:(args.toList.map a.eval++[cap]).toArray=args.map a.eval ++ #[cap]:=by
  apply Array.ext'
  simp
 rw [ea] at hc
 refine Yl.call hr (hc.mono ?_)
 rintro e w' ⟨x,rfl,hchg,Imm',o,hI,hnew,hR,hnd,hfr⟩
 refine ⟨x,rfl,hchg,{ g with Imm:=fun b=>Imm' b },o,⟨rfl,rfl,rfl,rfl,rfl,hI,fun b hb => ?_⟩,hnew,?_,hnd,hfr⟩
 ·rcases hnew b hb with h | h
  ·exact .inl h
  ·exact .inr (.inl (Nat.le_trans hp.base h.1))
 ·exact cF (g:=dy w Imm' (fun b=>g.Im b∨b∈oN)) (g':={ g with Imm:=fun b=>Imm' b }) (fun _ h=>h) res x o hcl (.inr hsh) hR
end
section
variable {P:Program} {ty:TypeId} {pos:String} {aft:Array Edge} {gd:Option (Nat×Bool)}
end
namespace Sh
end Sh
section
variable {P:Program} {Q:Exit→Act→World→Prop} {g0:Gh} {rnd:Option Nat} {ops:Array Oper} {N T G:List aJ} {W:List bH} {ty:TypeId} {pos:String} {aft:Array Edge} {gd:Option (Nat×Bool)}
abbrev zq (n:List Nat) (g s:Nat):Sp:=⟨n,[],[g],[.slot s]⟩
theorem zl {n m:Nat} (h:Nat.ble n m=true):n≤m:=Nat.le_of_ble_eq_true h
theorem zp {o:Oper} (hg:o.guard=none) (h:bm P o N T G W):vG P ops o N T G W:=lV hg h
theorem zs {o:Oper} (j:Nat) (want:Bool) {d dd:Nat} {oj:Oper} (hg:o.guard=some (j,want)) (hj:ops[j]? = some oj) (hd:oj.dst=some d) (hdd:o.dst=some dd):vG P ops o ((d,AV.v (.bool (!want)))::N) [] [(dd,.v undef)] [.slot dd] :=
 zA j d dd want hg hj hd hdd (List.Mem.head _)
abbrev z0:LJ:=⟨#[]⟩
abbrev vb (b:Bool):AV := .v (.bool b)
abbrev vs (s:LJ):AV := .v (.string s)
abbrev vi (n:Int):AV := .v (.int .i64 n)
abbrev vz:AV := .v (.slice none 0 0)
abbrev fb (l:List Int):AV := .fl .shr 1 (l.map (Value.int .u8))
abbrev fi (l:List Int):AV := .fl .shr 1 (l.map (Value.int .i64))
theorem z1 {d:Nat} {x:Operand} {av:AV} (h:(gd,bj N x,eO [.slot d] av)=(none,av,true)):vG P ops ⟨some d,.move x,ty,pos,aft,gd⟩ N [] [(d,av)] [.slot d]:=lV (congrArg Prod.fst h) (zD N d x av (congrArg (fun x=>x.2.1) h) (congrArg (fun x=>x.2.2) h))
theorem z3 {d:Nat} {c x y:Operand} (b:Bool) {r:Value} (h:(gd,rd N c,rd N (if b then x else y))=(none,.v (.bool b),.v r)):vG P ops ⟨some d,.pick c x y,ty,pos,aft,gd⟩ N [] [(d,.v r)] [.slot d]:=lV (congrArg Prod.fst h) (zg N d b r (congrArg (fun x=>x.2.1) h) (congrArg (fun x=>x.2.2) h))
theorem z4 {d:Nat} {op:BinOp} {t t':TypeId} {x y:Operand} {a b r:Value} (h:(gd,rd N x,rd N y)=(none,.v a,.v b)) (h2:mQ op a b=some r):vG P ops ⟨some d,.binOp op t x y t',ty,pos,aft,gd⟩ N [] [(d,.v r)] [.slot d]:=lV (congrArg Prod.fst h) (rO N d a b r (congrArg (fun x=>x.2.1) h) (congrArg (fun x=>x.2.2) h) h2)
theorem zz:True:=trivial
theorem zi {A:Type} {a b:A} (h:some a=some b):a=b:=Option.some.inj h
theorem zn {A R:Type} {m:Option A} {f:A→Option R} {r:R} (h:m.bind f=some r):∃ x,m=some x∧f x=some r:=bind_some h
theorem oB {d:Nat} {op:BinOp} {t t':TypeId} {x y:Operand} {a b r:Value} (h:(rd N x,rd N y)=(.v a,.v b)) (h2:mQ op a b=some r):bm P ⟨some d,.binOp op t x y t',ty,pos,aft,gd⟩ N [] [(d,.v r)] [.slot d]:=rO N d a b r (congrArg Prod.fst h) (congrArg Prod.snd h) h2
theorem oL {d:Nat} {U:TypeId} {td:TypeDesc} {x:Operand} {T':TypeId} {cs:List AV} {t off:Nat} {av:AV} (hT:P.underlying U=some td) (h:(cY td,bj N x,look N t,Nat.ble (off+1) cs.length,jX t off (cs.getD off .any),eO [.slot d] av,eu av)=(false,.ptr t off,.box T' cs,true,av,true,true)) :
  bm P ⟨some d,.load U x,ty,pos,aft,gd⟩ N [] [(d,av)] [.slot d] :=
 Ae N d x t off av hT (congrArg (fun x=>x.1) h) (congrArg (fun x=>x.2.1) h) (congrArg (fun x=>x.2.2.1) h) (Nat.le_of_ble_eq_true (congrArg (fun x=>x.2.2.2.1) h)) (congrArg (fun x=>x.2.2.2.2.1) h) (congrArg (fun x=>x.2.2.2.2.2.1) h) (congrArg (fun x=>x.2.2.2.2.2.2) h)
theorem oF {d:Nat} {s:TypeId} {x:Operand} {i:Nat} {fs:Array Field} {f:Field} {t off k2 k:Nat} (hT:P.underlying s=some (.struct fs)) (h:(fs[i]?,bj N x,off+f.offset,Nat.beq t d)=(some f,.ptr t off,k2,false)) (hk:(P.info? f.type).map (·.size)=some (k+1)) :
  bm P ⟨some d,.fieldAddr s x i,ty,pos,aft,gd⟩ N [] [(d,.ptr t k2)] [.slot d] :=
 oD N d x i t off k2 hT (congrArg (fun x=>x.1) h) hk (congrArg (fun x=>x.2.1) h) (congrArg (fun x=>x.2.2.1) h) (Nat.ne_of_beq_eq_false (congrArg (fun x=>x.2.2.2) h))
theorem oN {d:Nat} {t t':TypeId} {x:Operand} {s:LJ} (hT:P.underlying t=some .string) (hx:rd N x = .v (.string s)):bm P ⟨some d,.call ⟨.builtin .len,#[x],#[t]⟩,t',pos,aft,gd⟩ N [] [(d,.v (.int .i64 (s.size:Int)))] [.slot d]:=qQ N d s hT hx
end
namespace Sh
end Sh
section
variable {P:Program} {ty:TypeId} {pos:String} {aft:Array Edge} {gd:Option (Nat×Bool)}
end
section
variable {P:Program}
variable {ty:TypeId} {pos:String} {aft:Array Edge} {gd:Option (Nat×Bool)}
end
theorem tu {A B:Type} {z:Nat} {enc:A→List B} (he:∀ x,(enc x).length=z) {l:List A} {i q s:Nat} {x:A} (h:aB l i=some x) (hq:q+s≤z):i * z+q+s≤((l.map enc).flatten).length:=by
 have hi:i<l.length:=(List.getElem?_eq_some_iff.1 h).1
 have:=wV he hi
 omega
theorem ri {A B:Type} {z:Nat} {enc:A→List B} (he:∀ x,(enc x).length=z) {l:List A} {i q s:Nat} {x y:A} {vs:List B} (h:aB l i=some x) (hy:enc y=(enc x).take q++(vs++(enc x).drop (q+s))) (hq:q+s≤z) :
  ((l.map enc).flatten).take (i * z+q)++(vs++((l.map enc).flatten).drop (i * z+q+s))=((l.set i y).map enc).flatten:=by
 unfold aB at h
 obtain ⟨hi,hx⟩:=List.getElem?_eq_some_iff.1 h
 have hl:l=l.take i++x::l.drop (i+1):=by
  rw [← hx,List.getElem_cons_drop,List.take_append_drop]
 have e1:((l.map enc).flatten)=((l.take i).map enc).flatten++(enc x++((l.drop (i+1)).map enc).flatten):=by
  conv=>lhs; rw [hl]
  simp
 have e2:((l.set i y).map enc).flatten=((l.take i).map enc).flatten++(enc y++((l.drop (i+1)).map enc).flatten):=by
  rw [List.set_eq_take_append_cons_drop,if_pos hi]
  simp
 have hlen:(((l.take i).map enc).flatten).length=i * z:=by rw [cO he,List.length_take,Nat.min_eq_left (Nat.le_of_lt hi)]
 have hex:=he x
 rw [e1,e2,hy,← hlen,List.take_length_add_append,show (((l.take i).map enc).flatten).length+q+s=(((l.take i).map enc).flatten).length+(q+s) by omega,List.drop_length_add_append,
  List.take_append_of_le_length (by omega),List.drop_append_of_le_length (by omega)]
 simp only [List.append_assoc]
namespace Sh
end Sh
inductive Jh (s:Bool) (z:Nat) (N:List aJ) (zl:List Value):List (Option Operand)→List IC→Prop
 | nil:Jh s z N zl [] []
 | some (x:Operand) {av:AV} {ics jcs:List IC} {es:List (Option Operand)} (h:bj N x=av) (hok:dQ N av=true) (hai:Cu s (dl av) ics) (hl:ics.length=z) (hr:Jh s z N zl es jcs):Jh s z N zl (some x::es) (ics++jcs)
 | none {ics jcs:List IC} {es:List (Option Operand)} (hai:Cu s (zl.map AV.v) ics) (hl:ics.length=z) (hr:Jh s z N zl es jcs):Jh s z N zl (none::es) (ics++jcs)
section
variable {P:Program} {ty:TypeId} {pos:String} {aft:Array Edge} {gd:Option (Nat×Bool)}
end
section
variable {P:Program} {ty:TypeId} {pos:String} {aft:Array Edge} {gd:Option (Nat×Bool)}
end
section
variable {P:Program} {ty:TypeId} {pos:String} {aft:Array Edge} {gd:Option (Nat×Bool)}
end
def um (E:TypeId) (s:Bool) (z:Nat) (ics:List IC) (b n c:Nat):yV where
 P:=fun I M o w=>R (dy w I M) V0 w (.fr (.own E) s z ics) (.slice (some ⟨b,0,none⟩) n c) o
 stab:=by
  intro I M I' M' o w w' hI hM hw h
  exact fE (g:=dy w I M) (g':=dy w' I' M') (W:=[]) hI hM (fun _ _=>rfl) _ _ _ rfl (fun k hk=>hw k hk) h
theorem Gq {g g':Gh} {V V':bH→Value} {w:World} {m:Md} {s:Bool} {z:Nat} {ics:List IC} {x:Value} {o:List Nat} (hI:∀ b,g.Imm b→g'.Imm b) (hM:∀ b,g.Im b→g'.Im b) (h:R g V w (.fr m s z ics) x o):R g' V' w (.fr m s z ics) x o :=
 cF hI _ _ _ rfl (.inl hM) h
theorem Gk {g:Gh} {V:bH→Value} {w:World} {E:TypeId} {s:Bool} {z:Nat} {ics:List IC} {x:Value} {o:List Nat} (h0:0<ics.length) (h:R g V w (.fr (.own E) s z ics) x o):∃ b n c,x = .slice (some ⟨b,0,none⟩) n c∧ics.length=n * z:=by
 obtain ⟨vs,h1,h2⟩:=na h
 simp only [R] at h1
 obtain ⟨a,n,c,⟨rfl,_⟩,hl,_,_,hown,_⟩:=h1
 have hlen:=dF h2
 obtain ⟨b,c',cur,h4,_⟩:=mO hown (fun e=>by subst e; simp at hlen; omega)
 exact ⟨b,n,c',h4,by rw [← hlen,hl]⟩
theorem St.perm {g:Gh} {V:bH→Value} {o o':List Nat} {a:Act} {w:World} (hs:St g V o a w) (hp:o.Perm o'):St g V o' a w :=
 ⟨hs.val,hs.size,hs.defers,hs.dnd,fun D hD=>let ⟨h1,h2,h3⟩:=hs.marks D hD; ⟨h1,fun hm=>h2 (hp.mem_iff.2 hm),h3⟩,hp.nodup_iff.1 hs.nodup,fun b hb=>hs.own b (hp.mem_iff.2 hb),hs.imm,hs.chg⟩
theorem GC (b:Nat) (oa om oc oR:List Nat):(b::(oa++(om++oc))++oR).Perm (b::(oa++([]++oc))++(om++oR)):=by
 simp only [List.nil_append,List.cons_append,List.append_assoc]
 refine .cons _ (.append_left _ ?_)
 rw [← List.append_assoc,← List.append_assoc]
 exact List.perm_append_comm.append_right _
theorem gB.openRow {g:Gh} {a:Act} {w:World} {es:List aJ} {t i z:Nat} {T E:TypeId} {cs:List AV} {s:Bool} {ics:List IC} (gs:Nat) (hi:i<cs.length) (hg:cs.getD i .any = .fr (.own E) s z ics) (h0:0<ics.length) (h:gB g ((t,.box T cs)::es) a w) :
  ∃ b n c,ics.length=n * z∧gB g ((t,.box T (cs.set i (.v (.slice (some ⟨b,0,none⟩) n c))))::(gs,.inv (um E s z ics b n c))::es) a w:=by
 obtain ⟨V,ow,hst,o1,oR,rfl,⟨hR,htie⟩,hF⟩:=h
 simp only [R] at hR
 obtain ⟨bb,ys,os,hp,rfl,hh,hrs⟩:=hR
 obtain ⟨oa,om,oc,rfl,hA,hRi,hC⟩:=kA i hrs hi
 rw [hg] at hRi
 obtain ⟨b,n,c,hx,hn⟩:=Gk h0 hRi
 rw [hx] at hRi
 refine ⟨b,n,c,hn,V,_,hst.perm (GC bb oa om oc oR),bb::(oa++([]++oc)),om++oR,rfl,⟨?_,?_⟩,om,oR,rfl,⟨?_,trivial⟩,hF⟩
 ·simp only [R]
  exact ⟨bb,ys,_,hp,rfl,hh,oS i hi (aU hrs) hA (by simp only [R]; exact ⟨hx,trivial⟩) hC⟩
 ·dsimp only at htie ⊢
  intro b' hb' j hj
  exact htie b' hb' j (by simpa using hj)
 ·simp only [R]
  exact Gq (g:=g) (g':=dy w g.Imm g.Im) (V':=V0) (fun _ h=>h) (fun _ h=>h) hRi
theorem gB.closeRow {g:Gh} {a:Act} {w:World} {es:List aJ} {t gs i z b n c:Nat} {T E:TypeId} {cs:List AV} {s:Bool} {ics:List IC} (hi:i<cs.length) (hg:cs.getD i .any = .v (.slice (some ⟨b,0,none⟩) n c)) (h:gB g ((t,.box T cs)::(gs,.inv (um E s z ics b n c))::es) a w) :
  gB g ((t,.box T (cs.set i (.fr (.own E) s z ics)))::es) a w:=by
 obtain ⟨V,ow,hst,o1,o2,rfl,⟨hR,htie⟩,om,oR,rfl,⟨hJ,_⟩,hF⟩:=h
 simp only [R] at hR hJ
 obtain ⟨bb,ys,os,hp,rfl,hh,hrs⟩:=hR
 obtain ⟨oa,oi,oc,rfl,hA,hRi,hC⟩:=kA i hrs hi
 rw [hg] at hRi
 simp only [R] at hRi
 obtain ⟨hx,rfl⟩:=hRi
 refine ⟨V,_,hst.perm (GC bb oa om oc oR).symm,bb::(oa++(om++oc)),oR,rfl,⟨?_,?_⟩,hF⟩
 ·simp only [R]
  refine ⟨bb,ys,_,hp,rfl,hh,oS i hi (aU hrs) hA ?_ hC⟩
  rw [hx]
  exact Gq (V:=V0) (g:=dy w g.Imm g.Im) (fun _ h=>h) (fun _ h=>h) hJ
 ·dsimp only at htie ⊢
  intro b' hb' j hj
  exact htie b' hb' j (by simpa using hj)
section
variable {P:Program} {Q:Exit→Act→World→Prop} {g0:Gh} {rnd:Option Nat}
theorem FQ {cd:Code} {es:List aJ} {t z:Nat} {T E:TypeId} {cs:List AV} {s:Bool} {ics:List IC} (gs i:Nat) (cs':Nat→Nat→Nat→List AV) (hi:i<cs.length) (hg:cs.getD i .any = .fr (.own E) s z ics) (hc':∀ b n c,cs.set i (.v (.slice (some ⟨b,0,none⟩) n c))=cs' b n c) (h0:0<ics.length)
  (h:∀ b n c,ics.length=n * z→HT rnd P Q g0 cd ((t,.box T (cs' b n c))::(gs,.inv (um E s z ics b n c))::es)):HT rnd P Q g0 cd ((t,.box T cs)::es):=by
 intro g a w hl hs
 obtain ⟨b,n,c,hn,hs'⟩:=hs.openRow gs hi hg h0
 rw [hc'] at hs'
 exact h b n c hn g a w hl hs'
theorem DQ {e:Exit} {es:List aJ} {t gs z b n c:Nat} {T E:TypeId} {cs:List AV} {s:Bool} {ics:List IC} (i:Nat) (cs':List AV) (hi:i<cs.length) (hg:cs.getD i .any = .v (.slice (some ⟨b,0,none⟩) n c)) (hc':cs.set i (.fr (.own E) s z ics)=cs')
  (h:PT Q g0 e ((t,.box T cs')::es)):PT Q g0 e ((t,.box T cs)::(gs,.inv (um E s z ics b n c))::es):=by
 subst hc'
 exact fun g a w hl hs=>h g a w hl (hs.closeRow hi hg)
theorem Fj {A:Type} {z i:Nat} {enc:A→List IC} (he:∀ x,(enc x).length=z) (hz:0<z) {l:List A} {x:A} (h:aB l i=some x):0<((l.map enc).flatten).length:=by
 have hi:i<l.length:=(List.getElem?_eq_some_iff.1 h).1
 rw [cO he]
 exact Nat.mul_pos (by omega) hz
variable {ty:TypeId} {pos:String} {aft:Array Edge} {gd:Option (Nat×Bool)}
theorem ta (N:List aJ) (d:Nat) {T e:TypeId} (x y:Operand) {kd:IntKind} (nn:Int) (b n c i z:Nat) (hT:P.underlying T=some (.slice e)) (hz:(P.info? e).map (·.size)=some z)
  (hx:rd N x = .v (.slice (some ⟨b,0,none⟩) n c)) (hy:rd N y = .v (.int kd nn)) (hnn:nn=(i:Int)) (hi:i<n) :
  bm P ⟨some d,.indexAddr T x y,ty,pos,aft,gd⟩ N [] [(d,.v (.pointer (some ⟨b,i * z,none⟩)))] [.slot d]:=by
 subst hnn
 refine bm.v rfl fun g V oN a w hp => ?_
 have h2:=cX hp.val hp.esN hx
 have h3:=cX hp.val hp.esN hy
 simp [execOp,Instr.indexAt,Sem.run_bind,run_underlying hT,h2,h3,asIntOf,bT hz,hi,dv]
theorem DM {l:List IC} {n z i m:Nat} (hl:l.length=n * z) (hm:l.length=m * z) (hz:0<z) (hi:i<m):i<n:=by
 have:=Nat.eq_of_mul_eq_mul_right hz (hl.symm.trans hm)
 omega
theorem ol (N:List aJ) {T:TypeId} (ax vx:Operand) {E:TypeId} {z:Nat} {s:Bool} {ics ics':List IC} (gs b n c k sz:Nat) (vs:List Value) (hs:(P.info? T).map (·.size)=some sz)
  (hx:rd N ax = .v (.pointer (some ⟨b,k,none⟩))) (hv:qI N vx=some vs) (hlen:vs.length=sz) (h0:0<sz) (hfit:k+sz≤ics.length) (hcs:ics.take k++(vs.map IC.v++ics.drop (k+sz))=ics') :
  bm P ⟨none,.store T ax vx,ty,pos,aft,gd⟩ N [(gs,.inv (um E s z ics b n c))] [(gs,.inv (um E s z ics' b n c))] []:=by
 subst hcs
 refine bm.core fun g V oN oT a w hd hp => ?_
 have hT:=hp.esT
 simp only [Es] at hT
 obtain ⟨ob,o2,rfl,⟨hR,_⟩,rfl⟩:=hT
 have h2:=cX hp.val hp.esN hx
 simp only [R] at hR
 have hR:R (dy w g.Imm g.Im) V0 w (.fr (.own E) s z ics) (.slice (some ⟨b,0,none⟩) n c) ob:=hR
 obtain ⟨xs,hR,hic⟩:=na hR
 have hxl:=dF hic
 simp only [R] at hR
 obtain ⟨a0,n',c',⟨h3,_⟩,hl,hone,_,hown,hob⟩:=hR
 have hne:xs≠[]:=fun e=>by subst e; simp at hxl; omega
 obtain ⟨b',c',cur,h4,hb,hnc,hcm,hsz,htk,_⟩:=mO hown hne
 cases h4
 cases h3
 obtain ⟨hvc,hvo⟩:=qE hp.val hp.esN hv
 have hrun:(execOp a.eval ⟨none,.store T ax vx,ty,pos,aft,gd⟩).run P w = .ok .skip (w.setRow b (cur.toList.take k++vs++cur.toList.drop (k+vs.length)).toArray):=by
  have hcl:=(by simpa using hsz:cur.toList.length=_)
  have:=Nat.mul_le_mul_right z hnc
  have:=gO (P:=P) (w:=w) (T:=T) (off:=k) hs (cur:=cur.toList) (E:=E) (by simpa using hb) (v:=a.eval vx) (by rw [← hlen,← hvc]; simp) (by rw [hvc]; exact hvo) (by omega)
  rw [hvc] at this
  simp [execOp,Instr.storeAt,h2,Instr.sureAddr,this,hlen]
 refine (Yl.skip hrun).mono ?_
 rintro y w' ⟨rfl,rfl⟩
 have hnew:=pO (w:=w) (vs:=vs) k hb hnc hcm hsz htk hl (by omega)
 rw [hlen] at hnew
 have hone':∀ u∈xs.take k++(vs++xs.drop (k+sz)),u.oneCell'=true:=by
  intro u hu
  simp only [List.mem_append] at hu
  rcases hu with hu | hu | hu
  ·exact hone u (List.mem_of_mem_take hu)
  ·exact hvo u hu
  ·exact hone u (List.mem_of_mem_drop hu)
 have hchg:ep [b] w (w.setRow b (cur.toList.take k++vs++cur.toList.drop (k+vs.length)).toArray):=jr _ _ _
 have hob':ob=[b]:=by rw [hob]; rfl
 have hnb:¬ g.imm b:=(hp.own b (by simp [hob'])).2
 refine ⟨g,V,ob,g.le_refl,fun c hc => .inl hc,fun c hc=>Nat.lt_of_lt_of_le (hp.imm c (.inl hc)) hchg.size,hchg.mono (by rw [hob']; simp),fun _ _=>rfl,fun u=>by simp only [Act.put]; exact hp.val u,?_,?_,?_⟩
 ·refine ⟨ob,[],by simp,⟨?_,trivial⟩,rfl⟩
  simp only [R]
  show R (dy _ g.Imm g.Im) V0 _ (.fr (.own E) s z _) (.slice (some ⟨b,0,none⟩) n _) ob
  refine rT (vs:=xs.take k++(vs++xs.drop (k+sz))) ?_ ?_
  ·rw [hob']
   rw [← hlen] at hnew ⊢
   exact gp hnew (by rw [hlen]; exact hone')
  ·have hst:hZ (dy (w.setRow b (cur.toList.take k++vs++cur.toList.drop (k+vs.length)).toArray) g.Imm g.Im) (w.setRow b (cur.toList.take k++vs++cur.toList.drop (k+vs.length)).toArray) s ics xs :=
    el (g:=dy w g.Imm g.Im) (g':=dy (w.setRow b (cur.toList.take k++vs++cur.toList.drop (k+vs.length)).toArray) g.Imm g.Im) (fun b' hb'=>mG (g:=dy w g.Imm g.Im) (g':=dy (w.setRow b (cur.toList.take k++vs++cur.toList.drop (k+vs.length)).toArray) g.Imm g.Im) (fun _ h=>h) (fun _ h=>h) hb') (fun k' hk'=>hchg.block k' (hp.imm k' hk') (by simp only [List.mem_singleton]; rintro rfl; exact hnb hk')) ics xs hic
   exact iu (rN k hst) (iu (kv.2 rfl) (se (k+sz) hst))
 ·exact (List.nodup_append.1 (List.nodup_append.1 hp.nodup).2.1).1
 ·intro c hc
  have:=hp.own c (by simp [hc])
  exact ⟨.inl (by simp [hc]),Nat.lt_of_lt_of_le this.1 hchg.size,this.2⟩
end
section
variable {P:Program} {ty:TypeId} {pos:String} {aft:Array Edge} {gd:Option (Nat×Bool)}
end
namespace Sh
end Sh
namespace Sh
def Jf (k:List Int):Bool:=k.all fun x=>decide (0≤x)&&decide (x<256)
def oZ (n:Nat) (m:List (List Int×Int)) (k:List Int):Option Int:=if k.length=n∧Jf k=true then some ((m.lookup k).getD 0) else none
def Bt {A:Type} (n:Nat) (l:List A):Option (List A):=if n≤l.length then some (l.take n) else none
def th (n:Nat) (m:List (List Int×Int)) (k:List Int) (v:Int):Option (List (List Int×Int)):=if (k.length=n∧Jf k=true)∧m.length<140737488355328 ∧ -9223372036854775808≤v∧v≤9223372036854775807 then some ((k,v)::m) else none
end Sh
end Go.Abs
end
