import Derived.Test.YtckpeedhchjjnaaGreatDoorB2
import Derived.DeepKeys3
import Derived.Maps.OwnSet
namespace Go.Abs
open Go.Maps
inductive CK
 | i (q:IntKind)
 | b
 | s
namespace Sh
def Ke:CK→Value→Bool
 | .i q,.int q' n=>decide (q'=q)&&(Lit.int q n).wf
 | .b,.bool _=>true
 | .s,.string s=>Nat.ble s.size 140737488355328
 | _,_=>false
def Gy:List CK→List Value→Bool
 | [],[]=>true
 | k::ks,v::vs=>Ke k v&&Gy ks vs
 | _,_=>false
end Sh
open Sh
section
variable (P:Program)
def Ey (g:TypeId→Option (List CK)):List Field→Nat→Option (List CK)
 | [],_=>some []
 | f::fs,off =>
  match g f.type with
  | some ks=>if f.offset=off∧P.cellsOf f.type=ks.length then (Ey g fs (off+ks.length)).map (ks ++ ·) else none
  | none=>none
def Jm:Nat→TypeId→Option (List CK)
 | 0,_=>none
 | d+1,t =>
  match P.underlying t with
  | some .bool=>some [.b]
  | some (.int q)=>some [.i q]
  | some .string=>some [.s]
  | some (.struct fs) =>
   if fs.all (·.name != "_") = true then
    match Ey P (Jm d) fs.toList 0 with
    | some ks=>if ks.length=P.cellsOf t then some ks else none
    | none=>none
   else none
  | _=>none
end
section
variable {P:Program}
structure Lo (P:Program) (T k e:TypeId) {α:Type} (ks:List CK) (f:α→List Value):Prop where
 ut:P.underlying T=some (.map k e)
 kd:Maps.Keyed P k
 ky:∀ q:α,Gy ks (f q)=true→∃ l,keyOf P k (.agg (f q).toArray)=some l
 inj:∀ a b:α,f a=f b→a=b
variable {ty:TypeId} {pos:String} {aft:Array Edge} {gd:Option (Nat×Bool)} {α:Type}
end
section
variable {P:Program} {ty:TypeId} {pos:String} {aft:Array Edge} {gd:Option (Nat×Bool)}
theorem wP (N:List aJ) (d:Nat) {T e:TypeId} {n:Nat} {parts:Array (Nat×Operand)} (z:Value) (us:List Value) (iD:List (Nat×Value)) (hT:P.underlying T=some (.array n e)) (hz:(P.info? e).map (·.size)=some 1)
  (hzv:(P.info? T).bind (·.zero)=some z) (hv:∀ (g:Gh) (V:bF→Value) (w:World) (o:List Nat) (a:Act),(∀ t,V (.slot t)=a.tmps.getD t undef)→Es g V w N o→(parts.map fun (i,x)=>(i,a.eval x)).toList=iD)
  (hf:Instr.fill (fun i=>some (i * 1,1)) z.cells iD=some us.toArray) (hcl:eh [.slot d] (.agg (us.map .v))=true) :
  bh P ⟨some d,.build T parts,ty,pos,aft,gd⟩ N [] [(d,.agg (us.map .v))] [.slot d]:=by refine bh.value rfl hcl rfl fun g V oN a w hp => ?_;have hvals:=hv g V w oN a hp.val hp.esN;refine ⟨.agg us.toArray,?_,by simp only [R]; exact ⟨us,rfl,ta us⟩⟩;simp only [execOp,Instr.build,Sem.run_bind,jg hzv,Result.andThen_ok,run_underlying hT,bu hz,hvals];simp only [Nat.mul_one] at hf;simp [hf]
theorem tV (N:List aJ) (d:Nat) {T e:TypeId} (x y:Operand) {kd:IntKind} {j:Int} (n t off i:Nat) (hT:P.underlying T=some (.array n e)) (hz:(P.info? e).map (·.size)=some 1)
  (hx:bm N x = .ptr t off) (hy:rd N y = .v (.int kd j)) (hj:j=(i:Int)) (hi:i<n) (ht:t≠d):bh P ⟨some d,.indexAddr T x y,ty,pos,aft,gd⟩ N [] [(d,.ptr t (off+i * 1))] [.slot d]:=by subst hj;exact cv N d x y n t off i 1 hT hz hx hy hi ht
theorem qf (N:List aJ) (d:Nat) {T:TypeId} (x:Operand) {T':TypeId} {cs:List AV} (t off i n:Nat) (ss:List ME) (s:ME) (hT:P.underlying T=some .string)
  (hx:bm N x = .ptr t (off+i * 1)) (hl:look N t = .box T' cs) (hcs:(cs.drop off).take n=(ss.map Value.string).map .v) (hn:ss.length=n) (hv:bK ss i=some s) :
  bh P ⟨some d,.load T x,ty,pos,aft,gd⟩ N [] [(d,.v (.string s))] [.slot d]:=by
 have hi:ss[i]? = some s:=hv;have hlt:i<ss.length:=(List.getElem?_eq_some_iff.1 hi).1;have hlen:=congrArg List.length hcs;simp only [List.length_take,List.length_drop,List.length_map] at hlen;refine za N d x t (off+i * 1) _ hT rfl hx hl (by omega) ?_ rfl rfl;have h1:((cs.drop off).take n)[i]? = some (.v (.string s)):=by rw [hcs]; simp [hi]
 rw [List.getElem?_take,if_pos (by omega),List.getElem?_drop] at h1;rw [Nat.mul_one,List.getD_eq_getElem?_getD,h1];rfl
end
section
variable {H:Type} {enc:TypeId×Value→H} {P:Program} {W:World} {sp:Nat→Bool} {hd:Bool} {t:TypeId}
end
end Go.Abs
