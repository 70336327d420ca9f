/-
 Rows of own rows: a row whose cells hold memory of their own; nobody else holds any of it. '.hid (ownJ T z cs)' hides the cells' values; opened,the row is a plain one and a word beside it ('.inv (ownI cs vs)') holds what its cells stand for.
-/
import Derived.Test.YtglabbpbianmnaaGreatDoorAN
namespace Go.Abs
set_option linter.unusedVariables false
def ownI (cs:List AV) (vs:List Value):InvT :=
 ⟨fun I M o w=>Rs (gh0 w I M) V0 w cs vs o,fun I M I' M' o w w' hI hM hw h =>
  Rs_stab (g:=gh0 w I M) (g':=gh0 w' I' M') (W:=[]) hI hM (fun _ _=>rfl) cs vs o (clrs_nil cs) (fun b hb=>hw b hb) h⟩
def ownJ (T:TypeId) (z:Nat) (cs:List AV):HidT where
 P I M x o w:=∃ (vs:List Value) (o1 o2:List Nat),o=o1++o2∧R (gh0 w I M) V0 w (.fl (.own T) z vs) x o1∧Rs (gh0 w I M) V0 w cs vs o2
 stab I M I' M' x o w w' hI hM hw h:=by
  obtain ⟨vs,o1,o2,rfl,h1,h2⟩:=h
  exact ⟨vs,o1,o2,rfl,
   R_stab (g:=gh0 w I M) (g':=gh0 w' I' M') (W:=[]) hI hM (fun _ _=>rfl) _ x o1 rfl (fun b hb=>hw b (hb.imp (fun h=>by simp [h]) id)) h1,
   Rs_stab (g:=gh0 w I M) (g':=gh0 w' I' M') (W:=[]) hI hM (fun _ _=>rfl) cs vs o2 (clrs_nil cs) (fun b hb=>hw b (hb.imp (fun h=>by simp [h]) id)) h2⟩
 one:=true
 cell _ I M x o w h:=by
  obtain ⟨vs,o1,o2,rfl,h1,h2⟩:=h
  simp only [R] at h1
  obtain ⟨a,n,c,⟨rfl,_⟩,_⟩:=h1
  rfl
theorem fl_gh {g g':Gh} (V V':Loc→Value) {w:World} {T:TypeId} {z:Nat} {vs:List Value} {x:Value} {o:List Nat} (hI:∀ b,g.Imm b→g'.Imm b) (h:R g V w (.fl (.own T) z vs) x o):R g' V' w (.fl (.own T) z vs) x o :=
 R_closed hI _ _ _ rfl (.inr rfl) h
section
variable {g:Gh} {a:Act} {w:World}
end
section
variable {P:Program} {Q:Exit→Act→World→Prop} {g0:Gh} {rnd:Option Nat}
end
section
variable {P:Program} {ty:TypeId} {pos:String} {aft:Array Edge} {gd:Option (Nat×Bool)}
theorem ownJ_stab {g g':Gh} {w w':World} {cs:List AV} {vs:List Value} {o:List Nat} (hI:∀ b,g.Imm b→g'.Imm b) (hM:∀ b,g.Im b→g'.Im b) (hw:∀ b,b∈o∨g.imm b→w'.heap[b]? = w.heap[b]?)
  (h:Rs (gh0 w g.Imm g.Im) V0 w cs vs o):Rs (gh0 w' g'.Imm g'.Im) V0 w' cs vs o :=
 Rs_stab (g:=gh0 w g.Imm g.Im) (g':=gh0 w' g'.Imm g'.Im) (W:=[]) hI hM (fun _ _=>rfl) _ _ _ (clrs_nil _) hw h
theorem op_build1_own (N:List Ent) (d t:Nat) {T e:TypeId} (z:Nat) (zv:Value) (av:AV) (cs:List AV) (hT:P.underlying T=some (.slice e)) (hz:(P.info? e).map (·.size)=some z)
  (hzv:(P.info? e).bind (·.zero)=some zv) (hok:cellsOk [] av=true) (hcs:vcells av=cs) (hl:cs.length=z) (h0:0<z) (hsm:z≤16777216) (hcl:closeds cs=true) :
  LOp P ⟨some d,.buildSlice T 1 #[(0,.tmp t)],ty,pos,aft,gd⟩ N [(t,av)] [(d,.hid (ownJ e z cs))] [.slot d]:=by
 subst hcs
 refine LOp.core fun g V oN oT a w hd hp => ?_
 have hT':=hp.esT
 simp only [Es] at hT'
 obtain ⟨ot,o2',rfl,⟨hR0,_⟩,rfl⟩:=hT'
 have he:a.eval (.tmp t)=V (.slot t):=by rw [hp.val]; rfl
 have hR:R g V w av (a.eval (.tmp t)) ot:=by rw [he]; exact hR0
 obtain ⟨h1,hone⟩:=vcells_R (NT:=[]) (oNT:=[]) (g:=g) (V:=V) (w:=w) rfl hok hR
 have hcl':(a.eval (.tmp t)).cells.toList.length=z:=by rw [Rs_length h1,hl]
 have hcs:(a.eval (.tmp t)).cells.size=z:=by simpa using hcl'
 have hfill:Instr.fill (fun i=>some (i * z,z)) ((Array.range (1 * z)).map (zv.cells[· % zv.cells.size]!)) [(0,a.eval (.tmp t))]=some (a.eval (.tmp t)).cells:=by
  have hno:¬ ((a.eval (.tmp t)).cells.size≠z∨0 * z+(a.eval (.tmp t)).cells.size > ((Array.range (1 * z)).map (zv.cells[· % zv.cells.size]!)).size):=by
   rw [Array.size_map,Array.size_range,hcs]; omega
  unfold Instr.fill
  simp only []
  rw [if_neg (by rw [Bool.or_eq_true,decide_eq_true_iff,decide_eq_true_iff]; exact hno)]
  unfold Instr.fill
  congr 1
  have:=fold_splice (a.eval (.tmp t)).cells.toList (0 * z) ((Array.range (1 * z)).map (zv.cells[· % zv.cells.size]!)) 0 (by simp [hcs])
  apply Array.toList_inj.1
  rw [← Array.foldl_toList,Array.toList_zipIdx]
  refine Eq.trans ?_ (this.trans ?_)
  ·rfl
  ·simp only [Nat.zero_mul,Nat.zero_add,List.take_zero,List.nil_append]
   rw [List.drop_eq_nil_of_le (by simp [hcs]),List.append_nil]
 have hr:(execOp a.eval ⟨some d,.buildSlice T 1 #[(0,.tmp t)],ty,pos,aft,gd⟩).run P w = .ok (.value (.slice (some ⟨w.heap.size,0,none⟩) 1 1)) (w.alloc (.cells (a.eval (.tmp t)).cells e)):=by
  have hbig:¬ 1 * z > 2 ^ 24:=by omega
  have hnz:¬ 1 * z=0:=by omega
  simp only [execOp,Instr.buildSlice,Sem.run_bind,run_underlying hT,Result.andThen_ok,run_sizeOf' hz,hbig,if_false,hnz,run_zero hzv]
  have e1:((#[(0,.tmp t)]:Array (Nat×Operand)).map fun (i,x)=>(i,a.eval x)).toList=[(0,a.eval (.tmp t))]:=by simp
  simp only [Sem.run_pure,Result.andThen_ok]
  rw [e1,hfill]
  simp [newRow,newObj]
  rfl
 have hown:=World.ownsRow_lit (base:=0) (e:=e) (size:=z) w (a.eval (.tmp t)).cells 1 (Nat.zero_le _) (by simp only [maxLen]; omega) (by omega)
 refine (Yl.val hr).mono ?_
 rintro v w2 ⟨rfl,rfl⟩
 have hlt:d<g.n:=hd d rfl
 have hot:∀ b∈ot,b<w.heap.size∧¬ g.imm b:=fun b hb=>hp.own b (by simp [hb])
 have hnd:ot.Nodup:=by have:=(List.nodup_append.1 hp.nodup).2.1; simpa using this
 refine ⟨g,setV V d _,w.heap.size::ot,g.le_refl,fun b hb => .inl hb,fun b hb=>Nat.lt_of_lt_of_le (hp.imm b (.inl hb)) (Chg.alloc [] w _).size,Chg.alloc _ _ _,fun l hl=>setV_hit hl,fun u=>setV_val hp.val hp.size hlt u,?_,?_,?_⟩
 ·refine ⟨w.heap.size::ot,[],by simp,⟨?_,trivial⟩,rfl⟩
  show R g _ _ (.hid (ownJ e z (vcells av))) (setV V d _ (.slot d)) _
  rw [setV_slot]
  have h3:=own_fl (g:=gh0 (w.alloc (.cells (a.eval (.tmp t)).cells e)) g.Imm g.Im) (V:=V0) hown hone
  have h2:Rs (gh0 w g.Imm g.Im) V0 w (vcells av) (a.eval (.tmp t)).cells.toList ot:=Rs_closed (g:=g) (g':=gh0 w g.Imm g.Im) (V:=V) (V':=V0) (fun _ h=>h) _ _ _ hcl (.inl fun _ h=>h) h1
  have h4:(ownJ e z (vcells av)).P g.Imm g.Im (.slice (some ⟨w.heap.size,0,none⟩) 1 1) (w.heap.size::ot) (w.alloc (.cells (a.eval (.tmp t)).cells e)) :=
   ⟨_,[w.heap.size],ot,rfl,h3,ownJ_stab (g:=g) (g':=g) (fun _ h=>h) (fun _ h=>h) (fun b hb=>(Chg.alloc [] w _).block b (hb.elim (fun h=>(hot b h).1) (fun h=>hp.imm b h)) (by simp)) h2⟩
  simp only [R]
  exact h4
 ·exact List.nodup_cons.2 ⟨fun h=>Nat.lt_irrefl _ (hot _ h).1,hnd⟩
 ·intro b hb
  rcases List.mem_cons.1 hb with rfl | hb
  ·exact ⟨.inr (Nat.le_refl _),by simp,fun hi=>Nat.lt_irrefl _ (hp.imm _ hi)⟩
  ·exact ⟨.inl (by simp [hb]),Nat.lt_of_lt_of_le (hot b hb).1 (Chg.alloc [] w _).size,(hot b hb).2⟩
end
section
variable {A:Type} {E:TypeId} {f:A→Value}
end
end Go.Abs
