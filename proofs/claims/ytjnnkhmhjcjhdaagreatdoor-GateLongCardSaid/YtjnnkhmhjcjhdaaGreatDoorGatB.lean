import Derived.Test.YtjnnkhmhjcjhdaaGreatDoorGatA
import Derived.Test.YtjnnkhmhjcjhdaaGreatDoorGatP
namespace Go.Abs.Sh
set_option linter.unusedVariables false
set_option linter.unusedSimpArgs false
set_option maxRecDepth 100000
theorem wakes23:wherrylaw23_wakes=some true:=by kernel_rfl
abbrev g0G:T_Gate:=T_Gate.mk 0 (⟨#[]⟩:ByteArray) noP [] false [] (⟨#[]⟩:ByteArray) false
theorem idx2_no:∀ {l:List Int},(∀ x∈l,x≠13)→idx2 l=none
 | [],_=>rfl
 | x::l,h=>by
  unfold idx2
  rw [if_neg (fun e=>h x (by simp) e.1),idx2_no fun y hy=>h y (by simp [hy])]; rfl
theorem idx2_cr:∀ {l:List Int},(∀ x∈l,x≠13)→idx2 (l++[13])=none
 | [],_=>rfl
 | x::l,h=>by
  rw [List.cons_append]; unfold idx2
  rw [if_neg (fun e=>h x (by simp) e.1),idx2_cr fun y hy=>h y (by simp [hy])]; rfl
theorem parse500 {s:ByteArray} {p:Bool} (hp:verb_printable s=some p) (hk:verb_kindOf s=some 0):verb_Parse s=some (T_Cmd.mk 0 (⟨#[]⟩:ByteArray) noP [],500):=by
 unfold verb_Parse
 refine bndL (s:=true) ?_ (cnd_t rfl rfl)
 by_cases h:510<(s.size:Int)
 ·exact cnd_t (decide_eq_true h) rfl
 ·refine cnd_f (decide_eq_false h) (bnd hp ?_)
  cases p
  ·exact cnd_t rfl rfl
  ·exact cnd_f rfl (bnd hk rfl)
theorem line_500 {i t:Int} {g:T_Gate} {o:List T_Out} {s:ByteArray} {p:Bool} (h6:g.Phase≠6) (h5:g.Phase≠5) (ho:o.length<100000) (hp:verb_printable s=some p) (hk:verb_kindOf s=some 0) :
  gate_session_line (SG i t g o) s=some (SG i t g (o++[rpG 500])):=by
 unfold gate_session_line
 refine bndR (a:=SG i t g (o++[rpG 500])) (cnd_f (beq_eq_false_iff_ne.2 h6) (cnd_f (beq_eq_false_iff_ne.2 h5) (bnd (parse500 hp hk) (cnd_t rfl (bnd (reply_eq (g:=g) (code:=500) (by decide) ho) rfl))))) rfl
theorem rep_ne (r:Nat) (d a b x y:Int) (h:a≠b):List.replicate r d≠[a,b,x,y]:=by
 intro e
 have hl:=congrArg List.length e
 simp only [List.length_replicate,List.length_cons,List.length_nil] at hl
 subst hl
 simp only [List.replicate,List.cons.injEq] at e
 omega
theorem rep_kind (r:Nat) (c:Int):kindL (List.replicate r c)=0:=by
 have hw:∀ (r:Nat) (d:Int),kindW (List.replicate r d)=0:=by
  intro r d
  unfold kindW
  simp only [rep_ne r d _ _ _ _ (show (101:Int)≠104 by decide),rep_ne r d _ _ _ _ (show (104:Int)≠101 by decide),rep_ne r d _ _ _ _ (show (109:Int)≠97 by decide),rep_ne r d _ _ _ _ (show (114:Int)≠99 by decide),rep_ne r d _ _ _ _ (show (100:Int)≠97 by decide),rep_ne r d _ _ _ _ (show (114:Int)≠115 by decide),rep_ne r d _ _ _ _ (show (113:Int)≠117 by decide),rep_ne r d _ _ _ _ (show (110:Int)≠111 by decide),rep_ne r d _ _ _ _ (show (118:Int)≠114 by decide),rep_ne r d _ _ _ _ (show (101:Int)≠116 by decide),rep_ne r d _ _ _ _ (show (97:Int)≠117 by decide),rep_ne r d _ _ _ _ (show (97:Int)≠116 by decide),or_self,if_false]
 unfold kindL
 have hc:∃ k,(cutW 32 (List.replicate r c)).1=List.replicate k c:=by
  unfold cutW
  cases idx1 32 (List.replicate r c) with
  | none=>exact ⟨r,rfl⟩
  | some e=>exact ⟨min e r,by simp [List.take_replicate]⟩
 obtain ⟨k,hk⟩:=hc
 rw [hk]
 unfold lowL
 rw [List.map_replicate]
 exact hw k _
theorem byt_rep {c:Int} (h:0≤c∧c<256) (r:Nat):byt (List.replicate r c):=fun x hx=>by rw [(List.mem_replicate.1 hx).2]; exact h
theorem z4:(0:Int)≠4:=by decide
theorem z5:(0:Int)≠5:=by decide
theorem z6:(0:Int)≠6:=by decide
def stL (c:Int) (k:Nat):T_Gate×List T_Out:=(bufG g0G (List.replicate (k % 513) c),List.replicate (k / 513) (rpG 500))
theorem long_step {c:Int} (h:0≤c∧c<256) (h13:c≠13) (h10:c≠10) (k:Nat) (hk:k<1200):ByteG 1 1 k c (stL c k) (stL c (k+1)):=by
 have hn:∀ r,idx2 (List.replicate r c)=none:=fun r=>idx2_no fun x hx=>by rw [(List.mem_replicate.1 hx).2]; exact h13
 have ea:List.replicate (k % 513) c++[c]=List.replicate (k % 513+1) c:=List.replicate_succ'.symm
 have hm:k % 513<513:=Nat.mod_lt _ (by decide)
 refine ⟨?_,?_⟩
 ·show (List.replicate (k % 513) c).length<100000
  rw [List.length_replicate]; omega
 have hb:bufG (stL c k).1 ((stL c k).1.Buf++[c])=bufG g0G (List.replicate (k % 513+1) c):=by
  show bufG g0G (List.replicate (k % 513) c++[c])=_
  rw [ea]
 rw [hb]
 by_cases hk0:k=0
 ·refine ⟨true,by rw [if_pos hk0],?_⟩
  subst hk0
  exact run_0 (step_none z4 (byt_rep h 1) (Nat.le_of_ble_eq_true rfl) (hn 1))
 ·by_cases hr:k % 513=512
  ·refine ⟨true,?_,?_⟩
   ·rw [if_neg hk0,comp_line z4,decide_eq_true (by show (512:Int)<((List.replicate (k % 513+1) c).length:Nat); rw [List.length_replicate]; omega),Bool.or_true]
   ·rw [if_pos rfl]
    have e1:(stL c (k+1)).1=g0G:=by
     show bufG g0G (List.replicate ((k+1) % 513) c)=_
     rw [show (k+1) % 513=0 by omega]; rfl
    have e2:(stL c (k+1)).2=(stL c k).2++[rpG 500]:=by
     show List.replicate ((k+1) / 513) (rpG 500)=List.replicate (k / 513) (rpG 500)++[rpG 500]
     rw [show (k+1) / 513=k / 513+1 by omega,List.replicate_succ']
    rw [e1,e2]
    refine run_1 (step_long z4 z6 (byt_rep h _) ?_ ?_ ?_ (hn _)) (step_none (g:=g0G) z4 (by intro x hx; cases hx) (Nat.zero_le _) rfl)
    ·show 512<(List.replicate (k % 513+1) c).length
     rw [List.length_replicate]; omega
    ·show (List.replicate (k % 513+1) c).length<100000
     rw [List.length_replicate]; omega
    ·show (List.replicate (k / 513) (rpG 500)).length<100000
     rw [List.length_replicate]; omega
  ·refine ⟨false,?_,?_⟩
   ·rw [if_neg hk0,comp_line z4,decide_eq_false (by show ¬ (512:Int)<((List.replicate (k % 513+1) c).length:Nat); rw [List.length_replicate]; omega),beq_eq_false_iff_ne.2 h10]; rfl
   ·rw [if_neg (by decide)]
    show (bufG g0G (List.replicate ((k+1) % 513) c),List.replicate ((k+1) / 513) (rpG 500))=_
    rw [show (k+1) % 513=k % 513+1 by omega,show (k+1) / 513=k / 513 by omega]
    rfl
theorem new_ok:gate_valid g0G=some true:=by kernel_rfl
theorem long_feed {c:Int} (h:0≤c∧c<256) (h13:c≠13) (h10:c≠10) (q:Nat) (hq:q<1200) :
  gate_Feed cfG 1 1 g0G (List.replicate q c)=some (bufG g0G (List.replicate (q % 513) c),List.replicate (q / 513) (rpG 500),0):=by
 have hm:q % 513<513:=Nat.mod_lt _ (by decide)
 have:=feed_eq (i:=1) (t:=1) g0G (List.replicate q c) (stL c) rfl (.inr rfl) (by decide) new_ok (by rw [List.length_replicate]; omega) (by decide) (by
  rw [List.length_replicate]
  refine ⟨Nat.lt_of_lt_of_le (Nat.lt_succ_self _) (Nat.le_of_ble_eq_true rfl),?_⟩
  show (List.replicate (q % 513) c).length<1000000
  rw [List.length_replicate]; omega) (fun k hk=>by
  rw [List.getElem_replicate]
  rw [List.length_replicate] at hk
  exact long_step h h13 h10 k (by omega))
 rw [List.length_replicate] at this
 exact this
theorem noop_line (o:List T_Out) (ho:o=[rpG 500]):gate_session_line (SG 1 1 g0G o) (bstr [78,79,79,80])=some (SG 1 1 g0G [rpG 500,rpG 250]):=by
 subst ho; kernel_rfl
def stE (c:Int) (r:Nat) (k:Nat):T_Gate×List T_Out :=
 if k=0 then (bufG g0G (List.replicate r c),[]) else if k=1 then (bufG g0G (List.replicate r c++[13]),[]) else if k<8 then (bufG g0G ([78,79,79,80,13].take (k-2)),[rpG 500]) else (g0G,[rpG 500,rpG 250])
theorem end_feed {c:Int} (h:0≤c∧c<256) (h13:c≠13) (h10:c≠10) (r:Nat) (hr:r<512) :
  gate_Feed cfG 1 1 (bufG g0G (List.replicate r c)) [13,10,78,79,79,80,13,10]=some (g0G,[rpG 500,rpG 250],0):=by
 have hn:∀ x∈List.replicate r c,x≠13:=fun x hx=>by rw [(List.mem_replicate.1 hx).2]; exact h13
 have hb:=byt_rep h r
 have hnil:byt ([]:List Int):=fun x hx=>by cases hx
 have hlen:(List.replicate r c).length=r:=List.length_replicate
 have hE:∀ (o:List T_Out),gate_session_step (SG 1 1 g0G o)=some (false,SG 1 1 g0G o):=fun o=>step_none (g:=g0G) z4 hnil (Nat.zero_le _) rfl
 have hb13:byt (List.replicate r c++[13]):=byt_app hb (fun x hx=>by rw [List.mem_singleton.1 hx]; decide)
 have hb2:byt (List.replicate r c++13::10::[]):=byt_app hb (fun x hx=>by simp only [List.mem_cons,List.not_mem_nil,or_false] at hx; omega)
 have ha:(List.replicate r c++[13])++[10]=List.replicate r c++13::10::[]:=by simp
 refine feed_eq (i:=1) (t:=1) (bufG g0G (List.replicate r c)) _ (stE c r) rfl (.inr rfl) (by decide) ?_ (Nat.lt_of_lt_of_le (Nat.lt_succ_self _) (Nat.le_of_ble_eq_true rfl)) ⟨Nat.lt_of_lt_of_le (Nat.lt_succ_self _) (Nat.le_of_ble_eq_true rfl),by show (List.replicate r c).length<_; omega⟩ ⟨Nat.lt_of_lt_of_le (Nat.lt_succ_self _) (Nat.le_of_ble_eq_true rfl),Nat.lt_of_lt_of_le (Nat.lt_succ_self _) (Nat.le_of_ble_eq_true rfl)⟩ (fun k hk => ?_)
 ·exact new_ok
 have hcase:k=0∨k=1∨(2≤k∧k<7)∨k=7:=by simp only [List.length_cons,List.length_nil] at hk; omega
 rcases hcase with rfl | rfl | hmid | rfl
 ·refine ⟨by show (List.replicate r c).length<_; omega,true,by rw [if_pos rfl],?_⟩
  rw [if_pos rfl]
  refine run_0 (g:=bufG g0G (List.replicate r c++[13])) (o:=[]) (step_none z4 hb13 (by show (List.replicate r c++[13]).length≤512; rw [List.length_append,hlen]; show r+1≤512; omega) (idx2_cr hn))
 ·refine ⟨by show (List.replicate r c++[13]).length<_; rw [List.length_append,hlen]; show r+1<_; omega,true,?_,?_⟩
  ·rw [if_neg (by decide),comp_line z4]; rfl
  ·rw [if_pos rfl]
   show gate_session_run (SG 1 1 (bufG g0G ((List.replicate r c++[13])++[10])) [])=some (SG 1 1 g0G [rpG 500])
   rw [ha]
   have e1:(List.replicate r c++13::10::[]).drop (r+2)=[]:=List.drop_eq_nil_of_le (by rw [List.length_append,hlen]; exact Nat.le_refl _)
   have e2:(List.replicate r c++13::10::[]).take r=List.replicate r c:=by rw [List.take_append_of_le_length (by omega),List.take_of_length_le (by omega)]
   have hl:gate_session_line (SG 1 1 (bufG g0G ((List.replicate r c++13::10::[]).drop (r+2))) []) (bstr ((List.replicate r c++13::10::[]).take r))=some (SG 1 1 g0G [rpG 500]):=by
    rw [e1,e2]
    refine line_500 (g:=g0G) (o:=[]) z6 z5 (Nat.lt_of_lt_of_le (Nat.lt_succ_self _) (Nat.le_of_ble_eq_true rfl)) (print_eq _ hb (by omega)) ?_
    rw [kindOf_eq _ (by rw [bstr_size,hlen]; omega),sbytes_bstr hb,rep_kind]
   have hx:idx2 (List.replicate r c++13::10::[])=some r:=by have:=idx2_line (rest:=[]) hn; rw [hlen] at this; exact this
   have hsz:(List.replicate r c++13::10::[]).length<100000:=by rw [List.length_append,hlen]; show r+2<_; omega
   exact run_1 (step_line (g:=bufG g0G (List.replicate r c++13::10::[])) (g':=g0G) (o:=[]) (o':=[rpG 500]) (e:=r) z4 hb2 hsz hx hl) (hE _)
 ·have hq:∃ x,[13,10,78,79,79,80,13,10][k]=x∧ByteG 1 1 k x (stE c r k) (stE c r (k+1)):=by
   refine ⟨_,rfl,?_⟩
   have h5:k=2∨k=3∨k=4∨k=5∨k=6:=by omega
   rcases h5 with rfl | rfl | rfl | rfl | rfl
   all_goals exact ⟨Nat.lt_of_lt_of_le (Nat.lt_succ_self _) (Nat.le_of_ble_eq_true rfl),false,by rw [if_neg (by decide),comp_line z4]; rfl,rfl⟩
  obtain ⟨x,hx1,hx2⟩:=hq
  rw [hx1]; exact hx2
 ·refine ⟨Nat.lt_of_lt_of_le (Nat.lt_succ_self _) (Nat.le_of_ble_eq_true rfl),true,by rw [if_neg (by decide),comp_line z4]; rfl,?_⟩
  rw [if_pos rfl]
  exact run_1 (g:=bufG g0G [78,79,79,80,13,10]) (step_line (e:=4) z4 (by intro x hx; simp only [List.mem_cons,List.not_mem_nil,or_false] at hx; omega) (by decide) rfl (noop_line _ rfl)) (hE _)
end Go.Abs.Sh
