import Derived.Test.YtjdmcbkkacnmdaaGreatDoorAN
import Derived.Shelf.Spec.SlicesInsert
import Derived.Shelf.Spec.SlicesInsertGrow
namespace Go.Abs
set_option linter.unusedVariables false
theorem fQ {b:Nat} {e:TypeId} {fz:Nat×Nat}:∀ (vs:List Value) (o:Nat) (cur:Array Value) (w:World),w.heap[b]? = some (.cells cur e fz)→o+vs.length≤cur.size →
  w.setCells b o vs=w.setRow b (cur.toList.take o++vs++cur.toList.drop (o+vs.length)).toArray
 | [],o,cur,w,hg,_=>by
  rw [World.setCells]
  simp only [List.append_nil,List.length_nil,Nat.add_zero,List.take_append_drop,Array.toArray_toList]
  rw [setRow_self w b cur e fz hg]
 | v::r,o,cur,w,hg,hl=>by
  simp only [List.length_cons] at hl
  rw [World.setCells,setCell_eq_setRow w b o cur e fz v hg]
  have ih:=fQ r (o+1) (cur.setIfInBounds o v) (w.setRow b (cur.setIfInBounds o v)) (setRow_heap w b cur _ e fz hg) (by simp; omega)
  rw [ih,setRow_setRow]
  congr 1
  have:=list_seg_step cur.toList o v r (by simp; omega)
  simpa [Array.toList_setIfInBounds,Nat.add_assoc] using this
def wR (P:Program) (f:FuncId) (e:TypeId):Prop:=∀ (w:World) (v u:Value) (n m i:Nat) (xs ys:List Value),w.ownsRow 0 e 1 v n xs→w.ownsRow 0 e 1 u m ys→(∀ b,v.ownBlock=some b→u.ownBlock≠some b) →
 (∀ y∈xs,y.oneCell'=true)→(∀ y∈ys,y.oneCell'=true)→i≤n→0<m→(n+m) * 8≤140737488355328 →
 Calls P f #[v,.int .i64 i,u] w fun e' w'=>∃ v',e' = .returned v'∧w'.ownsRow 0 e 1 v' (n+m) (xs.take i++(ys++xs.drop i))∧ei v.ownBlock.toList w w'∧(v'.ownBlock=v.ownBlock∨v'.ownBlock=some w.heap.size)
theorem rk {w W:World} {b:Nat} {cur:Array Value} (hh:W.heap=w.heap) (h1:W.os=w.os) (h2:W.tape=w.tape) (h3:W.output=w.output):ei [b] w (W.setRow b cur):=by
 have h:=fB W b cur
 exact ⟨h.os.trans h1,h.tape.trans h2,h.output.trans h3,by rw [← hh]; exact h.size,fun k hk hS=>by rw [h.block k (by rw [hh]; exact hk) hS,hh]⟩
theorem xK {P:Program} {ρ:Go.Shelf.Ren} (L:Go.Proofs.Lays2.n21 P ρ):wR P (ρ.f 21) (ρ.t 3):=by
 intro w v u n m i xs ys hv hu hne h1x h1y hi hm hbig
 obtain ⟨hxl,hv⟩:=hv
 obtain ⟨hyl,hu⟩:=hu
 rw [Nat.mul_one] at hxl hyl
 rcases hu with ⟨_,rfl⟩ | ⟨vb,vc,vcur,rfl,_,hvh,hmc,_,hvs,hvt⟩
 ·omega
 rw [Nat.mul_one] at hvs hvt
 have hyr:∀ j x,ys[j]? = some x→w.cell? ⟨vb,0+j,none⟩=some x:=by
  intro j x hx
  rw [Nat.zero_add,cell_of_row w vb j _ _ (0,0) hvh]
  rw [← hvt,List.getElem?_take] at hx
  split at hx
  ·simpa using hx
  ·cases hx
 have hzc:∀ k,(Builtin.zeroCells (Value.int .i64 0).cells k).size=k:=fun k=>by rw [size_zeroCells]; exact Nat.mul_one k
 rcases hv with ⟨rfl,rfl⟩ | ⟨b,cap,cur,rfl,_,hb,hnc,hcm,hcs,hct⟩
 ·obtain rfl:i=0:=by omega
  have hx0:xs=[]:=List.eq_nil_of_length_eq_zero hxl
  subst hx0
  refine (Go.Proofs.Any2.slices_Insert_int_end_grow L none 0 0 vb 0 m vc [] ys w hm (Nat.le_refl _) (by omega) hbig rfl hyl (fun _=>rfl) (fun a h=>by cases h) hyr h1y).mono ?_
  rintro e' w' ⟨rfl,rfl⟩
  have hge:=grownCap_ge w (0+m) 0 (ρ.t 3)
  refine ⟨_,rfl,⟨by simp [hyl],.inr ⟨w.heap.size,_,_,rfl,Nat.zero_le _,heap_alloc_new w.drew _,hge,grownCap_le_maxLen w (0+m) 0 _ (by simp only [maxLen]; omega),?_,?_⟩⟩,(ei.drew _ w).trans (ei.alloc _ w.drew _),.inr rfl⟩
  ·rw [Array.size_append,hzc]; simp [hyl] at hge ⊢; omega
  ·simp [hyl]
 rw [Nat.mul_one] at hcs hct
 have hxr:∀ j x,xs[j]? = some x→w.cell? ⟨b,j,none⟩=some x:=by
  intro j x hx
  rw [cell_of_row w b j _ _ (0,0) hb]
  rw [← hct,List.getElem?_take] at hx
  split at hx
  ·simpa using hx
  ·cases hx
 have hxr0:∀ j x,xs[j]? = some x→w.cell? ⟨b,0+j,none⟩=some x:=fun j x hx=>by rw [Nat.zero_add]; exact hxr j x hx
 have hsome:∀ k,k<cap→(w.cell? ⟨b,k,none⟩).isSome=true:=fun k hk=>by
  rw [cell_of_row w b k _ _ (0,0) hb]
  simp [show k<cur.size by omega]
 have hfz:∀ k,w.frozen? ⟨b,k,none⟩=false:=fun k=>by simp [World.frozen?,hb]
 have hbv:vb≠b:=fun h=>by subst h; exact hne vb rfl rfl
 by_cases hin:i=n
 ·subst hin
  have hd:xs.drop i=[]:=by rw [List.drop_eq_nil_iff]; omega
  have ht:xs.take i=xs:=List.take_of_length_le (by omega)
  rw [hd,ht,List.append_nil]
  by_cases hroom:i+m≤cap
  ·refine (Go.Proofs.Any2.slices_Insert_int_end_room L b 0 i cap vb 0 m vc ys w hm hroom (by simp only [maxLen] at hcm; omega) hyl (fun j hj=>by rw [Nat.zero_add]; exact hsome _ (by omega)) (fun j hj=>hfz _) hyr h1y).mono ?_
   rintro e' w' ⟨rfl,rfl⟩
   rw [Nat.zero_add,fQ ys i cur w hb (by omega)]
   refine ⟨_,rfl,⟨by simp [hxl,hyl],.inr ⟨b,cap,_,rfl,Nat.zero_le _,setRow_heap w b cur _ _ _ hb,hroom,hcm,by simp; omega,?_⟩⟩,rk rfl rfl rfl rfl,.inl rfl⟩
   rw [Nat.mul_one,hct]
   exact List.take_left' (by simp [hxl,hyl])
  ·refine (Go.Proofs.Any2.slices_Insert_int_end_grow L (some ⟨b,0,none⟩) i cap vb 0 m vc xs ys w hm hnc (by omega) hbig hxl hyl (fun h=>by cases h) (fun a h j x hx=>by cases h; rw [dV]; exact hxr0 j x hx) hyr h1y).mono ?_
   rintro e' w' ⟨rfl,rfl⟩
   have hge:=grownCap_ge w (i+m) cap (ρ.t 3)
   refine ⟨_,rfl,⟨by simp [hxl,hyl],.inr ⟨w.heap.size,_,_,rfl,Nat.zero_le _,heap_alloc_new w.drew _,hge,grownCap_le_maxLen w (i+m) cap _ (by simp only [maxLen]; omega),?_,?_⟩⟩,(ei.drew _ w).trans (ei.alloc _ w.drew _),.inr rfl⟩
   ·rw [Array.size_append,hzc]; simp [hxl,hyl]; omega
   ·rw [Nat.mul_one,Array.toList_append]
    exact List.take_left' (by simp [hxl,hyl])
 ·have hilt:i<n:=by omega
  by_cases hroom:n+m≤cap
  ·have hsb:w.shape? b=some (ρ.t 3,cur.size):=by simp [World.shape?,hb]
   have hsa:w.shape? vb=some (ρ.t 3,vcur.size):=by simp [World.shape?,hvh]
   have hvf:∀ k,w.frozen? ⟨vb,k,none⟩=false:=fun k=>by simp [World.frozen?,hvh]
   refine (Go.Proofs.Any2.slices_Insert_int_shift L b 0 n cap i vb 0 m vc xs ys w hilt hm hroom (by simp only [maxLen] at hcm; omega) hbv hxl hyl hxr0 (fun j hj=>by rw [Nat.zero_add]; exact hsome _ (by omega)) (fun j hj=>hfz _) hyr h1x h1y _ _ _ _ hsa hsb (by omega) (hvf _) (hvf _)).mono ?_
   rintro e' w' ⟨rfl,rfl⟩
   have hb1:w.drew.heap[b]? = some (.cells cur (ρ.t 3) (0,0)):=hb
   have hdl:(xs.drop i).length=n-i:=by rw [List.length_drop,hxl]
   rw [Nat.zero_add,Nat.zero_add,fQ (xs.drop i) (i+m) cur w.drew hb1 (by rw [hdl]; omega)]
   have hb2:=setRow_heap w.drew b cur (cur.toList.take (i+m)++xs.drop i++cur.toList.drop (i+m+(xs.drop i).length)).toArray (ρ.t 3) (0,0) hb1
   rw [fQ ys i _ _ hb2 (by simp; omega),setRow_setRow]
   refine ⟨_,rfl,⟨by simp [hxl,hyl]; omega,.inr ⟨b,cap,_,rfl,Nat.zero_le _,setRow_heap w.drew b cur _ _ _ hb1,hroom,hcm,by simp; omega,?_⟩⟩,rk rfl rfl rfl rfl,.inl rfl⟩
   have e1:(cur.toList.take (i+m)++xs.drop i++cur.toList.drop (i+m+(xs.drop i).length)).take i=xs.take i:=by
    rw [List.append_assoc,List.take_append_of_le_length (by simp; omega),List.take_take,Nat.min_eq_left (by omega),← hct,List.take_take,Nat.min_eq_left (by omega)]
   have e2:(cur.toList.take (i+m)++xs.drop i++cur.toList.drop (i+m+(xs.drop i).length)).drop (i+ys.length)=xs.drop i++cur.toList.drop (i+m+(xs.drop i).length):=by
    rw [List.append_assoc]
    exact List.drop_left' (by simp [hyl]; omega)
   simp only [Nat.mul_one]
   rw [e1,e2,← List.append_assoc,← List.append_assoc]
   exact List.take_left' (by simp [hxl,hyl]; omega)
  ·refine (Go.Proofs.Any2.slices_Insert_int_grow L b 0 n cap i vb 0 m vc xs ys w hilt hm hnc (by omega) hbig hxl hyl hxr0 hyr h1x h1y).mono ?_
   rintro e' w' ⟨rfl,rfl⟩
   have hge:=grownCap_ge w (n+m) cap (ρ.t 3)
   obtain ⟨C,hC⟩:∃ C:Array Value,C=(xs.take i).toArray++Builtin.zeroCells (Value.int .i64 0).cells (n+m-i)++Builtin.zeroCells (Value.int .i64 0).cells (grownCap w (n+m) cap (ρ.t 3)-(n+m)):=⟨_,rfl⟩
   have hCs:C.size=grownCap w (n+m) cap (ρ.t 3):=by rw [hC,Array.size_append,Array.size_append,hzc,hzc]; simp; omega
   have hCt:C.toList.take i=xs.take i:=by
    rw [hC,Array.toList_append,Array.toList_append,List.append_assoc]
    exact List.take_left' (by simp; omega)
   rw [← hC]
   have g1:((w.alloc (.cells C (ρ.t 3))).drew).heap[w.heap.size]? = some (.cells C (ρ.t 3) (0,0)):=heap_alloc_new w _
   have hdl:(xs.drop i).length=n-i:=by rw [List.length_drop,hxl]
   rw [fQ ys i C _ g1 (by omega)]
   have g2:=setRow_heap ((w.alloc (.cells C (ρ.t 3))).drew) w.heap.size C (C.toList.take i++ys++C.toList.drop (i+ys.length)).toArray (ρ.t 3) (0,0) g1
   have g3:(((w.alloc (.cells C (ρ.t 3))).drew.setRow w.heap.size (C.toList.take i++ys++C.toList.drop (i+ys.length)).toArray).drew).heap[w.heap.size]? = _:=g2
   rw [fQ (xs.drop i) (i+m) _ _ g3 (by simp; omega)]
   have g4:=setRow_heap (((w.alloc (.cells C (ρ.t 3))).drew.setRow w.heap.size (C.toList.take i++ys++C.toList.drop (i+ys.length)).toArray).drew) w.heap.size _ ((C.toList.take i++ys++C.toList.drop (i+ys.length)).take (i+m)++xs.drop i++(C.toList.take i++ys++C.toList.drop (i+ys.length)).drop (i+m+(xs.drop i).length)).toArray (ρ.t 3) (0,0) g3
   refine ⟨_,rfl,⟨by simp [hxl,hyl]; omega,.inr ⟨w.heap.size,_,_,rfl,Nat.zero_le _,g4,hge,grownCap_le_maxLen w (n+m) cap _ (by simp only [maxLen]; omega),by simp; omega,?_⟩⟩,?_,.inr rfl⟩
   ·have e1:(C.toList.take i++ys++C.toList.drop (i+ys.length)).take (i+m)=xs.take i++ys:=by
     rw [hCt]
     exact List.take_left' (by simp [hxl,hyl]; omega)
    simp only [Nat.mul_one]
    rw [e1,List.append_assoc,List.append_assoc,← List.append_assoc,← List.append_assoc,List.append_assoc (xs.take i)]
    exact List.take_left' (by simp [hxl,hyl]; omega)
   ·have c0:ei [] w ((w.alloc (.cells C (ρ.t 3))).drew):=(ei.alloc [] w _).trans (ei.drew [] _)
    have c1:=fB ((w.alloc (.cells C (ρ.t 3))).drew) w.heap.size (C.toList.take i++ys++C.toList.drop (i+ys.length)).toArray
    have c2:=ei.drew [] ((w.alloc (.cells C (ρ.t 3))).drew.setRow w.heap.size (C.toList.take i++ys++C.toList.drop (i+ys.length)).toArray)
    have c3:=fB (((w.alloc (.cells C (ρ.t 3))).drew.setRow w.heap.size (C.toList.take i++ys++C.toList.drop (i+ys.length)).toArray).drew) w.heap.size ((C.toList.take i++ys++C.toList.drop (i+ys.length)).take (i+m)++xs.drop i++(C.toList.take i++ys++C.toList.drop (i+ys.length)).drop (i+m+(xs.drop i).length)).toArray
    have hnew:∀ x∈[w.heap.size],x∈([]:List Nat)∨w.heap.size≤x:=fun x hx=>by simp at hx; subst hx; exact .inr (Nat.le_refl _)
    exact (((c0.trans' c1 hnew).trans' c2 (by simp)).trans' c3 hnew).mono (by simp)
section
variable {P:Program} {ty:TypeId} {pos:String} {aft:Array Edge} {gd:Option (Nat×Bool)}
theorem sL (N:List aO) (d t i u k:Nat) (f:FuncId) {cal x y:Operand} {ats:Array TypeId} {e T':TypeId} {cs:List AV} {xs ys:List Value} (hcal:rd N cal = .v (.func (.func f) #[] #[])) (hrun:∀ args w,(callFunc f args).run P w = .ok (.enter f args) w) (hins:wR P f e)
  (hx:bw N x = .same (.cell t i)) (hc:cs.getD i .any = .fl (.own e) 1 xs) (hic:i<cs.length) (hy:rd N y = .v (.int .i64 (k:Int))) (hu:look N u = .fl (.own e) 1 ys) (hk:k≤xs.length) (hy0:0<ys.length) (hbig:(xs.length+ys.length) * 8≤140737488355328) (hdt:d≠t) (hcl:dP [.slot d] (cs.set i .any)=true) :
  aY P ⟨some d,.call ⟨.value cal,#[x,y,.tmp u],ats⟩,ty,pos,aft,gd⟩ N [(t,.box T' cs)] [(t,.box T' (cs.set i .any)),(d,.fl (.own e) 1 (xs.take k++(ys++xs.drop k)))] [.slot d]:=by
 refine aY.core fun g V oN oT a w hd hp => ?_
 have hT':=hp.esT
 simp only [Es] at hT'
 obtain ⟨ob,o2,rfl,hER,rfl⟩:=hT'
 obtain ⟨hR,htie⟩:=hER
 have hax:=ce hp.val hp.esN x
 rw [hx] at hax
 simp only [R] at hax hR
 obtain ⟨b,cur,os,hpt,rfl,hh,hrs⟩:=hR
 dsimp only at htie
 obtain ⟨o1,o3,hperm,hRi,hrest⟩:=gz i hrs hic
 rw [hc] at hRi
 have hlen:=aQ hrs
 have hcell:=htie b hpt i hic
 rw [cell_of_row w b i _ T' (0,0) hh] at hcell
 have hil:i<cur.length:=by omega
 have hVc:V (.cell t i)=cur.getD i undef:=by
  simp only [List.getElem?_toArray,List.getElem?_eq_getElem hil,Option.some.injEq] at hcell
  rw [← hcell]; simp [hil]
 obtain ⟨u0,hu0⟩:∃ u,u=cur.getD i undef:=⟨_,rfl⟩
 rw [← hu0] at hVc hRi
 simp only [R] at hRi
 obtain ⟨a0,n0,c0,⟨h3,_⟩,hl0,hone0,_,hown,hob⟩:=hRi
 have hy1:=dD hp.val hp.esN hy
 obtain ⟨ou,hou,hRu,_⟩:=ez hp.esN u
 dsimp only at hRu
 rw [hu] at hRu
 simp only [R,ck] at hRu
 obtain ⟨au,nu,cu,⟨heu,_⟩,hlu,honeu,_,hownu,hobu⟩:=hRu
 rw [Nat.mul_one] at hlu
 have en:n0=xs.length:=by omega
 subst en
 have hcv:=dD hp.val hp.esN hcal
 have h4:a.eval x=u0:=by rw [hax.1,hVc]
 have h5:a.eval (.tmp u)=V (.slot u):=by rw [hp.val]; rfl
 have hdis:∀ bb,u0.ownBlock=some bb→(V (.slot u)).ownBlock≠some bb:=by
  intro bb h1 h2
  have m1:bb∈o1:=by rw [hob,h1]; simp
  have m2:bb∈ou:=by rw [hobu,h2]; simp
  have hnd:=hp.nodup
  have:bb∈os:=by have:=hperm.mem_iff.2 (List.mem_append.2 (.inl m1)); exact this
  exact (List.nodup_append.1 hnd).2.2 bb (hou bb m2) bb (by simp [this]) rfl
 have hcall:=hins w u0 (V (.slot u)) xs.length nu k xs ys hown hownu hdis hone0 honeu hk (by omega) (by rw [← hlu]; exact hbig)
 have hr:(execOp a.eval ⟨some d,.call ⟨.value cal,#[x,y,.tmp u],ats⟩,ty,pos,aft,gd⟩).run P w = .ok (.enter f (#[x,y,.tmp u].map a.eval)) w:=by
  simp [execOp,resolve,hcv,Deferred.ofValue,invoke,hrun]
 have ea:(#[x,y,.tmp u].map a.eval) = #[u0,.int .i64 k,V (.slot u)]:=by simp [h4,hy1,h5]
 rw [← ea] at hcall
 refine Yl.call hr (hcall.mono ?_)
 rintro e2 w2 ⟨v,rfl,hown',hchg0,hblk⟩
 have hlt:d<g.n:=hd d rfl
 have hchg:ei o1 w w2:=by rw [hob]; exact hchg0
 have hin1:∀ c,c∈o1→c∈b::os:=fun c hc'=>by have:=hperm.mem_iff.2 (List.mem_append.2 (.inl hc')); simp [this]
 have hin3:∀ c,c∈o3→c∈b::os:=fun c hc'=>by have:=hperm.mem_iff.2 (List.mem_append.2 (.inr hc')); simp [this]
 have hinb:∀ c,c∈b::o3→c∈b::os:=by
  intro c hc'
  rcases List.mem_cons.1 hc' with h | h
  ·simp [h]
  ·exact hin3 c h
 have hnd2:(b::os).Nodup:=by have:=(List.nodup_append.1 hp.nodup).2.1; simpa using this
 have hnd3:(b::(o1++o3)).Nodup:=((hperm.cons b).nodup_iff).1 hnd2
 have hlts:∀ c,c∈b::os→c<w.heap.size∧¬ g.imm c:=fun c hc'=>hp.own c (by simp at hc' ⊢; exact .inr hc')
 have hkeep:∀ c,c∈b::o3∨g.imm c→w2.heap[c]? = w.heap[c]? := by
  intro c hc'
  rcases hc' with hc' | hc'
  ·refine hchg.block c (hlts c (hinb c hc')).1 fun h1 => ?_
   simp only [List.nodup_cons,List.mem_append,List.nodup_append] at hnd3
   rcases List.mem_cons.1 hc' with rfl | h3
   ·exact hnd3.1 (.inl h1)
   ·exact hnd3.2.2.2 c h1 c h3 rfl
  ·exact hchg.block c (hp.imm c hc') fun h1=>(hlts c (hin1 c h1)).2 hc'
 have hdtl:∀ l,gK [.slot d] l=false→cF V d v l=V l:=fun l hl=>ct hl
 refine ⟨v,rfl,g,cF V d v,(b::o3)++v.ownBlock.toList,g.le_refl,fun b hb => .inl hb,fun b hb=>Nat.lt_of_lt_of_le (hp.imm b (.inl hb)) hchg.size,?_,hdtl,fun u=>dt hp.val hp.size hlt u,?_,?_,?_⟩
 ·exact hchg.mono fun c hc'=>by simpa using hin1 c hc'
 ·have hVt:cF V d v (.slot t)=V (.slot t):=by simp only [cF]; rw [if_neg fun e=>hdt e.symm]
  have hVtc:∀ j,cF V d v (.cell t j)=V (.cell t j):=fun j=>rfl
  refine ⟨b::o3,v.ownBlock.toList,rfl,⟨?_,?_⟩,v.ownBlock.toList,[],by simp,⟨?_,trivial⟩,rfl⟩
  ·show R g _ _ (.box T' _) (cF V d v (.slot t)) _
   rw [hVt]
   simp only [R]
   refine ⟨b,cur,o3,hpt,rfl,by rw [hkeep b (.inl (by simp))]; exact hh,?_⟩
   exact cT (W:=[.slot d]) (fun _ h=>h) (fun _ h=>h) hdtl _ _ _ hcl (fun c hc'=>hkeep c (hc'.imp (fun h=>by simp [h]) id)) hrest
  ·intro b' hb' j hj
   rw [hVt] at hb'
   rw [hVtc]
   rw [World.cell?_of_block (w:=w) (by
    rw [hpt] at hb'; cases hb'
    exact hkeep b (.inl (by simp)))]
   exact htie b' hb' j (by simpa using hj)
  ·show R g _ _ _ (cF V d v (.slot d)) _
   rw [cL]
   refine fV hown' fun u hu => ?_
   rcases List.mem_append.1 hu with h | h
   ·exact hone0 u (List.mem_of_mem_take h)
   ·rcases List.mem_append.1 h with h | h
    ·exact honeu u h
    ·exact hone0 u (List.mem_of_mem_drop h)
 ·refine List.nodup_append.2 ⟨?_,by cases v.ownBlock <;> simp,?_⟩
  ·have:(o1++(b::o3)).Nodup:=(List.perm_middle.nodup_iff).2 hnd3
   exact (List.nodup_append.1 this).2.1
  ·intro c hc' c2 hc2 e
   subst e
   have hvb:v.ownBlock=some c:=by cases hv:v.ownBlock <;> simp [hv] at hc2 ⊢; exact hc2.symm
   rcases hblk with h | h
   ·have hin:c∈o1:=by rw [hob,← h,hvb]; simp
    simp only [List.nodup_cons,List.mem_append,List.nodup_append] at hnd3
    rcases List.mem_cons.1 hc' with rfl | h3
    ·exact hnd3.1 (.inl hin)
    ·exact hnd3.2.2.2 c hin c h3 rfl
   ·rw [hvb] at h
    cases h
    have:=(hlts w.heap.size (hinb _ hc')).1
    omega
 ·intro c hc'
  rcases List.mem_append.1 hc' with hc' | hc'
  ·have h4:c∈b::os:=hinb c hc'
   exact ⟨.inl (by simpa using h4),Nat.lt_of_lt_of_le (hlts c h4).1 hchg.size,(hlts c h4).2⟩
  ·have hvb:v.ownBlock=some c:=by cases hv:v.ownBlock <;> simp [hv] at hc' ⊢; exact hc'.symm
   have hlt2:=(hown'.lt c hvb).2
   rcases hblk with h | h
   ·have hin:c∈o1:=by rw [hob,← h,hvb]; simp
    exact ⟨.inl (by simpa using hin1 c hin),hlt2,(hlts c (hin1 c hin)).2⟩
   ·rw [hvb] at h
    cases h
    exact ⟨.inr (Nat.le_refl _),hlt2,fun hi=>Nat.lt_irrefl _ (hp.imm _ hi)⟩
theorem uO (N:List aO) (d t i u:Nat) (f:FuncId) {cal x y:Operand} {ats:Array TypeId} {e T':TypeId} {cs cs':List AV} {l m q:List Int} {k:Int} {xs ys zs:List Value} (hcal:rd N cal = .v (.func (.func f) #[] #[])) (hrun:∀ args w,(callFunc f args).run P w = .ok (.enter f args) w) (hins:wR P f e)
  (hx:bw N x = .same (.cell t i)) (hc:cs.getD i .any = .fl (.own e) 1 xs) (hic:i<cs.length) (hy:rd N y = .v (.int .i64 k)) (hu:look N u = .fl (.own e) 1 ys) (hl:l.map (Value.int .i64)=xs) (hm:m.map (Value.int .i64)=ys) (hq:Sh.cK l k m=some q) (hz:q.map (Value.int .i64)=zs) (hdt:d≠t) (hcs:cs.set i .any=cs') (hcl:dP [.slot d] cs'=true) :
  aY P ⟨some d,.call ⟨.value cal,#[x,y,.tmp u],ats⟩,ty,pos,aft,gd⟩ N [(t,.box T' cs)] [(t,.box T' cs'),(d,.fl (.own e) 1 zs)] [.slot d]:=by
 subst hz hl hm hcs
 unfold Sh.cK at hq
 split at hq
 ·rename_i h
  cases hq
  have hk:k=((k.toNat:Nat):Int):=by omega
  rw [hk] at hy
  have:=sL (P:=P) (ty:=ty) (pos:=pos) (aft:=aft) (gd:=gd) (ats:=ats) (T':=T') N d t i u k.toNat f hcal hrun hins hx hc hic hy hu (by simp; omega) (by simpa using h.2.2.1) (by simpa using h.2.2.2) hdt hcl
  simpa [List.map_append,List.map_take,List.map_drop] using this
 ·cases hq
end
end Go.Abs
