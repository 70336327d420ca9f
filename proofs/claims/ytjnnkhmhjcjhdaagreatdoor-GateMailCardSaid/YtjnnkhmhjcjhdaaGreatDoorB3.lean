import Derived.Test.YtjnnkhmhjcjhdaaGreatDoorB2
import Derived.DeepKeys3
import Derived.Maps.OwnSet
namespace Go.Abs
open Go.Maps
inductive CK
 | i (q:IntKind)
 | b
 | s
namespace Sh
def JU:CK→Value→Bool
 | .i q,.int q' n=>decide (q'=q)&&(Lit.int q n).wf
 | .b,.bool _=>true
 | .s,.string s=>Nat.ble s.size 140737488355328
 | _,_=>false
def GD:List CK→List Value→Bool
 | [],[]=>true
 | k::ks,v::vs=>JU k v&&GD ks vs
 | _,_=>false
end Sh
open Sh
section
variable (P:Program)
def DH (g:TypeId→Option (List CK)):List Field→Nat→Option (List CK)
 | [],_=>some []
 | f::fs,off =>
  match g f.type with
  | some ks=>if f.offset=off∧P.cellsOf f.type=ks.length then (DH g fs (off+ks.length)).map (ks ++ ·) else none
  | none=>none
def IR:Nat→TypeId→Option (List CK)
 | 0,_=>none
 | d+1,t =>
  match P.underlying t with
  | some .bool=>some [.b]
  | some (.int q)=>some [.i q]
  | some .string=>some [.s]
  | some (.struct fs) =>
   if fs.all (·.name != "_") = true then
    match DH P (IR d) fs.toList 0 with
    | some ks=>if ks.length=P.cellsOf t then some ks else none
    | none=>none
   else none
  | _=>none
end
section
variable {P:Program}
structure Lp (P:Program) (T k e:TypeId) {α:Type} (ks:List CK) (f:α→List Value):Prop where
 ut:P.underlying T=some (.map k e)
 kd:Maps.Keyed P k
 ky:∀ q:α,GD ks (f q)=true→∃ l,keyOf P k (.agg (f q).toArray)=some l
 inj:∀ a b:α,f a=f b→a=b
variable {ty:TypeId} {pos:String} {aft:Array Edge} {gd:Option (Nat×Bool)} {α:Type}
end
section
variable {P:Program} {ty:TypeId} {pos:String} {aft:Array Edge} {gd:Option (Nat×Bool)}
theorem uA (N:List aE) (d:Nat) {T e:TypeId} {n:Nat} {parts:Array (Nat×Operand)} (z:Value) (us:List Value) (jZ:List (Nat×Value)) (hT:P.underlying T=some (.array n e)) (hz:(P.info? e).map (·.size)=some 1)
  (hzv:(P.info? T).bind (·.zero)=some z) (hv:∀ (g:Gh) (V:bl→Value) (w:World) (o:List Nat) (a:Act),(∀ t,V (.slot t)=a.tmps.getD t undef)→Es g V w N o→(parts.map fun (i,x)=>(i,a.eval x)).toList=jZ)
  (hf:Instr.fill (fun i=>some (i * 1,1)) z.cells jZ=some us.toArray) (hcl:eM [.slot d] (.agg (us.map .v))=true) :
  aN P ⟨some d,.build T parts,ty,pos,aft,gd⟩ N [] [(d,.agg (us.map .v))] [.slot d]:=by
 refine aN.value rfl hcl rfl fun g V oN a w hp => ?_
 have hvals:=hv g V w oN a hp.val hp.esN
 refine ⟨.agg us.toArray,?_,by simp only [R]; exact ⟨us,rfl,qa us⟩⟩
 simp only [execOp,Instr.build,Sem.run_bind,jW hzv,Result.andThen_ok,run_underlying hT,aW hz,hvals]
 simp only [Nat.mul_one] at hf
 simp [hf]
theorem uV (N:List aE) (d:Nat) {T e:TypeId} (x y:Operand) {kd:IntKind} {j:Int} (n t off i:Nat) (hT:P.underlying T=some (.array n e)) (hz:(P.info? e).map (·.size)=some 1)
  (hx:aO N x = .ptr t off) (hy:rd N y = .v (.int kd j)) (hj:j=(i:Int)) (hi:i<n) (ht:t≠d):aN P ⟨some d,.indexAddr T x y,ty,pos,aft,gd⟩ N [] [(d,.ptr t (off+i * 1))] [.slot d]:=by
 subst hj
 exact bV N d x y n t off i 1 hT hz hx hy hi ht
theorem rN (N:List aE) (d:Nat) {T:TypeId} (x:Operand) {T':TypeId} {cs:List AV} (t off i n:Nat) (ss:List Mf) (s:Mf) (hT:P.underlying T=some .string)
  (hx:aO N x = .ptr t (off+i * 1)) (hl:look N t = .box T' cs) (hcs:(cs.drop off).take n=(ss.map Value.string).map .v) (hn:ss.length=n) (hv:bp ss i=some s) :
  aN P ⟨some d,.load T x,ty,pos,aft,gd⟩ N [] [(d,.v (.string s))] [.slot d]:=by
 have hi:ss[i]? = some s:=hv
 have hlt:i<ss.length:=(List.getElem?_eq_some_iff.1 hi).1
 have hlen:=congrArg List.length hcs
 simp only [List.length_take,List.length_drop,List.length_map] at hlen
 refine vO N d x t (off+i * 1) _ hT rfl hx hl (by omega) ?_ rfl rfl
 have h1:((cs.drop off).take n)[i]? = some (.v (.string s)):=by rw [hcs]; simp [hi]
 rw [List.getElem?_take,if_pos (by omega),List.getElem?_drop] at h1
 rw [Nat.mul_one,List.getD_eq_getElem?_getD,h1]
 rfl
end
section
variable {H:Type} {enc:TypeId×Value→H} {P:Program} {W:World} {sp:Nat→Bool} {hd:Bool} {t:TypeId}
end
end Go.Abs
