import Derived.Test.YtjnnkhmhjcjhdaaGreatDoorB2
import Derived.DeepKeys3
import Derived.Maps.OwnSet
namespace Go.Abs
open Go.Maps
inductive CK
 | i (q:IntKind)
 | b
 | s
namespace Sh
def IJ:CK→Value→Bool
 | .i q,.int q' n=>decide (q'=q)&&(Lit.int q n).wf
 | .b,.bool _=>true
 | .s,.string s=>Nat.ble s.size 140737488355328
 | _,_=>false
def EJ:List CK→List Value→Bool
 | [],[]=>true
 | k::ks,v::vs=>IJ k v&&EJ ks vs
 | _,_=>false
end Sh
open Sh
section
variable (P:Program)
def Cs (g:TypeId→Option (List CK)):List Field→Nat→Option (List CK)
 | [],_=>some []
 | f::fs,off =>
  match g f.type with
  | some ks=>if f.offset=off∧P.cellsOf f.type=ks.length then (Cs g fs (off+ks.length)).map (ks ++ ·) else none
  | none=>none
def Hp:Nat→TypeId→Option (List CK)
 | 0,_=>none
 | d+1,t =>
  match P.underlying t with
  | some .bool=>some [.b]
  | some (.int q)=>some [.i q]
  | some .string=>some [.s]
  | some (.struct fs) =>
   if fs.all (·.name != "_") = true then
    match Cs P (Hp d) fs.toList 0 with
    | some ks=>if ks.length=P.cellsOf t then some ks else none
    | none=>none
   else none
  | _=>none
end
section
variable {P:Program}
structure Ka (P:Program) (T k e:TypeId) {α:Type} (ks:List CK) (f:α→List Value):Prop where
 ut:P.underlying T=some (.map k e)
 kd:Maps.Keyed P k
 ky:∀ q:α,EJ ks (f q)=true→∃ l,keyOf P k (.agg (f q).toArray)=some l
 inj:∀ a b:α,f a=f b→a=b
variable {ty:TypeId} {pos:String} {aft:Array Edge} {gd:Option (Nat×Bool)} {α:Type}
end
section
variable {P:Program} {ty:TypeId} {pos:String} {aft:Array Edge} {gd:Option (Nat×Bool)}
theorem sJ (N:List az) (d:Nat) {T e:TypeId} {n:Nat} {parts:Array (Nat×Operand)} (z:Value) (us:List Value) (jC:List (Nat×Value)) (hT:P.underlying T=some (.array n e)) (hz:(P.info? e).map (·.size)=some 1)
  (hzv:(P.info? T).bind (·.zero)=some z) (hv:∀ (g:Gh) (V:aZ→Value) (w:World) (o:List Nat) (a:Act),(∀ t,V (.slot t)=a.tmps.getD t undef)→Es g V w N o→(parts.map fun (i,x)=>(i,a.eval x)).toList=jC)
  (hf:Instr.fill (fun i=>some (i * 1,1)) z.cells jC=some us.toArray) (hcl:dQ [.slot d] (.agg (us.map .v))=true) :
  aJ P ⟨some d,.build T parts,ty,pos,aft,gd⟩ N [] [(d,.agg (us.map .v))] [.slot d]:=by
 refine aJ.value rfl hcl rfl fun g V oN a w hp => ?_
 have hvals:=hv g V w oN a hp.val hp.esN
 refine ⟨.agg us.toArray,?_,by simp only [R]; exact ⟨us,rfl,pt us⟩⟩
 simp only [execOp,Instr.build,Sem.run_bind,jq hzv,Result.andThen_ok,run_underlying hT,aQ hz,hvals]
 simp only [Nat.mul_one] at hf
 simp [hf]
theorem tX (N:List az) (d:Nat) {T e:TypeId} (x y:Operand) {kd:IntKind} {j:Int} (n t off i:Nat) (hT:P.underlying T=some (.array n e)) (hz:(P.info? e).map (·.size)=some 1)
  (hx:aK N x = .ptr t off) (hy:rd N y = .v (.int kd j)) (hj:j=(i:Int)) (hi:i<n) (ht:t≠d):aJ P ⟨some d,.indexAddr T x y,ty,pos,aft,gd⟩ N [] [(d,.ptr t (off+i * 1))] [.slot d]:=by
 subst hj
 exact bt N d x y n t off i 1 hT hz hx hy hi ht
theorem qt (N:List az) (d:Nat) {T:TypeId} (x:Operand) {T':TypeId} {cs:List AV} (t off i n:Nat) (ss:List KK) (s:KK) (hT:P.underlying T=some .string)
  (hx:aK N x = .ptr t (off+i * 1)) (hl:look N t = .box T' cs) (hcs:(cs.drop off).take n=(ss.map Value.string).map .v) (hn:ss.length=n) (hv:bQ ss i=some s) :
  aJ P ⟨some d,.load T x,ty,pos,aft,gd⟩ N [] [(d,.v (.string s))] [.slot d]:=by
 have hi:ss[i]? = some s:=hv
 have hlt:i<ss.length:=(List.getElem?_eq_some_iff.1 hi).1
 have hlen:=congrArg List.length hcs
 simp only [List.length_take,List.length_drop,List.length_map] at hlen
 refine uQ N d x t (off+i * 1) _ hT rfl hx hl (by omega) ?_ rfl rfl
 have h1:((cs.drop off).take n)[i]? = some (.v (.string s)):=by rw [hcs]; simp [hi]
 rw [List.getElem?_take,if_pos (by omega),List.getElem?_drop] at h1
 rw [Nat.mul_one,List.getD_eq_getElem?_getD,h1]
 rfl
end
section
variable {H:Type} {enc:TypeId×Value→H} {P:Program} {W:World} {sp:Nat→Bool} {hd:Bool} {t:TypeId}
theorem zU {e:TypeId} {fuel:Nat} {cs:List Value} {y:DataW H×List MemPlace} (ht:P.underlying t=some (.array 2 e)) (he:P.underlying e=some .string) (h1:P.cellsOf e=1) (h2:P.cellsOf t=2) (h:DataW.trod enc P W 0 sp hd fuel t cs=some y) :
  ∃ a b:KK,cs=[.string a,.string b]∧yl a∧yl b∧y.1 = .agg [.lit (.string a.data.toList),.lit (.string b.data.toList)]:=by
 obtain ⟨xs,m,_,hy,hlen,hl,hel⟩:=DataW.trod_array ht h
 rw [h2] at hlen
 obtain ⟨c0,c1,rfl⟩:∃ c0 c1,cs=[c0,c1]:=by
  match cs,hlen with
  | [c0,c1],_=>exact ⟨c0,c1,rfl⟩
 obtain ⟨y0,y1,rfl⟩:∃ y0 y1,xs=[y0,y1]:=by
  match xs,hl with
  | [y0,y1],_=>exact ⟨y0,y1,rfl⟩
 have g0:=hel 0 (by omega)
 have g1:=hel 1 (by omega)
 rw [h1] at g0 g1
 obtain ⟨a,e0,r0,w0⟩:=DataW.trod_string he g0
 obtain ⟨b,e1,r1,w1⟩:=DataW.trod_string he g1
 obtain rfl:c0 = .string a:=by simpa using e0
 obtain rfl:c1 = .string b:=by simpa using e1
 refine ⟨a,b,rfl,w0,w1,?_⟩
 rw [hy,r0,r1]
 rfl
theorem xE {e:TypeId} (ht:P.underlying t=some (.array 2 e)) (he:P.underlying e=some .string) (h1:P.cellsOf e=1) (h2:P.cellsOf t=2) :
  gM enc P W sp hd t (fun l:List KK=>[IC.v (.string (l.getD 0 (⟨#[]⟩:KK))),IC.v (.string (l.getD 1 (⟨#[]⟩:KK)))]) (fun l=>l.length=2∧∀ x∈l,uq x):=by
 intro fuel cs y h hz
 obtain ⟨a,b,rfl,_,_,hy⟩:=zU ht he h1 h2 h
 rw [hy] at hz
 have za:=hz a.data.toList.length (by simp [DataW.weights,ht,DataW.weightsAll])
 have zb:=hz b.data.toList.length (by simp [DataW.weights,ht,DataW.weightsAll])
 refine ⟨[a,b],?_,by simp [Value.oneCell'],rfl,?_⟩
 ·exact br (kA.2 (by simp only [RI]; rfl)) (kA.2 (by simp only [RI]; rfl))
 ·intro x hx
  simp only [List.mem_cons,List.not_mem_nil,or_false] at hx
  rcases hx with rfl | rfl
  ·simpa [uq] using za
  ·simpa [uq] using zb
end
end Go.Abs
