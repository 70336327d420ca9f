import Derived.Test.YtjnnkhmhjcjhdaaGreatDoorLineM
import Derived.KernelRfl
namespace Go.Abs.Sh
set_option linter.unusedVariables false
set_option linter.unusedSimpArgs false
set_option maxRecDepth 100000
/-! The gate: a session by its steps. -/
abbrev cfG:T_Config:=T_Config.mk [(⟨#[97]⟩:ByteArray),(⟨#[98]⟩:ByteArray)] 9 (⟨#[117]⟩:ByteArray) (⟨#[115]⟩:ByteArray) 9000 false
abbrev SG (i t:Int) (g:T_Gate) (o:List T_Out):T_gate_session:=T_gate_session.mk g cfG i t o
abbrev tG (i t:Int) (p:T_Gate×List T_Out):Int×ByteArray×Bool×ByteArray×ByteArray×(List T_Path)×Bool×(List Int)×ByteArray×Bool×ByteArray×ByteArray×Int×ByteArray×ByteArray×Int×Bool×Int×Int×(List T_Out) :=
 (p.1.Phase,p.1.Helo,p.1.From.Null,p.1.From.Local,p.1.From.Domain,p.1.To,p.1.Quiet,p.1.Buf,p.1.Challenge,p.1.Proved,(⟨#[97]⟩:ByteArray),(⟨#[98]⟩:ByteArray),9,(⟨#[117]⟩:ByteArray),(⟨#[115]⟩:ByteArray),9000,false,i,t,p.2)
abbrev bufG (g:T_Gate) (b:List Int):T_Gate:=T_Gate.mk g.Phase g.Helo g.From g.To g.Quiet b g.Challenge g.Proved
abbrev noP:T_Path:=T_Path.mk false (⟨#[]⟩:ByteArray) (⟨#[]⟩:ByteArray)
def rpG (code:Int):T_Out:=T_Out.mk (T_Reply.mk code [if 200≤code∧code<400 then (⟨#[111,107]⟩:ByteArray) else (⟨#[110,111]⟩:ByteArray)]) false (T_Mail.mk noP [] [] false (⟨#[]⟩:ByteArray) 0) false
theorem run_n {i t:Int} (st:Nat→T_Gate×List T_Out) (n:Nat) (hn:n<1000000) {g:T_Gate} {o:List T_Out} {g':T_Gate} {o':List T_Out} (h0:st 0=(g,o))
  (hs:∀ k,k<n→gate_session_step (SG i t (st k).1 (st k).2)=some (true,SG i t (st (k+1)).1 (st (k+1)).2))
  (he:gate_session_step (SG i t (st n).1 (st n).2)=some (false,SG i t g' o')):gate_session_run (SG i t g o)=some (SG i t g' o'):=by
 unfold gate_session_run
 refine bndL (s:=tG i t (g',o')) (loop_from (fun k=>tG i t (st k)) n _ (by dsimp only; rw [h0]; rfl) (by simp only [BIG]; omega) (fun k hk => ?_) ?_) rfl
 ·exact bnd (hs k hk) rfl
 ·exact bnd he rfl
theorem run_0 {i t:Int} {g:T_Gate} {o:List T_Out} {g':T_Gate} {o':List T_Out} (he:gate_session_step (SG i t g o)=some (false,SG i t g' o')):gate_session_run (SG i t g o)=some (SG i t g' o') :=
 run_n (fun _=>(g,o)) 0 (by omega) rfl (fun k hk=>by omega) he
theorem run_1 {i t:Int} {g:T_Gate} {o:List T_Out} {g1:T_Gate} {o1:List T_Out} {g':T_Gate} {o':List T_Out} (h:gate_session_step (SG i t g o)=some (true,SG i t g1 o1))
  (he:gate_session_step (SG i t g1 o1)=some (false,SG i t g' o')):gate_session_run (SG i t g o)=some (SG i t g' o') :=
 run_n (fun k=>if k=0 then (g,o) else (g1,o1)) 1 (by omega) rfl (fun k hk=>match k,hk with | 0,_=>h | k+1,hk=>absurd hk (by omega)) he
theorem cutI_eq {l:List Int} (h:byt l):cutI l [13,10]=match idx2 l with | none => -1 | some e=>(e:Int):=index2 h
theorem cutO_of {l:List Int} (h:byt l) (hl:l.length<1000000):cutO l [13,10]=some ():=by
 unfold cutO
 refine if_pos ⟨List.all_eq_true.2 fun x hx => ?_,rfl,by omega,by decide⟩
 have:=h x hx
 simp only [Bool.and_eq_true,decide_eq_true_eq]; exact this
theorem reply_eq {i t:Int} {g:T_Gate} {o:List T_Out} {code:Int} (hc:code≠334) (ho:o.length<100000):gate_session_reply (SG i t g o) code=some (SG i t g (o++[rpG code])):=by
 unfold gate_session_reply
 refine bnd (x:=(rpG code).Reply) ?_ (bnd (app_of (by simp; omega) (by simp; omega)) rfl)
 unfold gate_session_answer_pin
 by_cases h:200≤code∧code<400
 ·refine bndL (s:=(⟨#[111,107]⟩:ByteArray)) (cnd_f (beq_eq_false_iff_ne.2 hc) (bnd (x:=true) ?_ rfl)) (by unfold rpG; rw [if_pos h])
  exact bndL (s:=true) (cnd_t (decide_eq_true h.1) (by rw [decide_eq_true h.2])) rfl
 ·refine bndL (s:=(⟨#[110,111]⟩:ByteArray)) (cnd_f (beq_eq_false_iff_ne.2 hc) (bnd (x:=false) ?_ rfl)) (by unfold rpG; rw [if_neg h])
  unfold answer_Good
  by_cases h1:200≤code
  ·exact bndL (s:=false) (cnd_t (decide_eq_true h1) (by rw [decide_eq_false (by omega)])) rfl
  ·exact bndL (s:=false) (cnd_f (decide_eq_false h1) rfl) rfl
theorem step_none {i t:Int} {g:T_Gate} {o:List T_Out} (h4:g.Phase≠4) (hb:byt g.Buf) (hl:g.Buf.length≤512) (hx:idx2 g.Buf=none):gate_session_step (SG i t g o)=some (false,SG i t g o):=by
 unfold gate_session_step
 refine cnd_f (beq_eq_false_iff_ne.2 h4) (bnd (cutO_of hb (by show g.Buf.length<_; omega)) ?_)
 refine cnd_f (decide_eq_false (by show ¬ 0≤cutI g.Buf [13,10]; rw [cutI_eq hb,hx]; decide)) (cnd_t (decide_eq_true (by show (g.Buf.length:Int)≤512; omega)) rfl)
theorem step_long {i t:Int} {g:T_Gate} {o:List T_Out} (h4:g.Phase≠4) (h6:g.Phase≠6) (hb:byt g.Buf) (hl:512<g.Buf.length) (hl2:g.Buf.length<100000) (ho:o.length<100000) (hx:idx2 g.Buf=none) :
  gate_session_step (SG i t g o)=some (true,SG i t (bufG g []) (o++[rpG 500])):=by
 unfold gate_session_step
 refine cnd_f (beq_eq_false_iff_ne.2 h4) (bnd (cutO_of hb (by show g.Buf.length<_; omega)) ?_)
 refine cnd_f (decide_eq_false (by show ¬ 0≤cutI g.Buf [13,10]; rw [cutI_eq hb,hx]; decide)) (cnd_f (decide_eq_false (by show ¬ (g.Buf.length:Int)≤512; omega)) ?_)
 exact bndL (s:=tG i t (bufG g [],o++[rpG 500])) (cnd_t (bne_iff_ne.2 h6) (bnd (reply_eq (g:=bufG g []) (code:=500) (by decide) ho) rfl)) rfl
theorem step_line {i t:Int} {g g':T_Gate} {o o':List T_Out} {e:Nat} (h4:g.Phase≠4) (hb:byt g.Buf) (hl:g.Buf.length<100000) (hx:idx2 g.Buf=some e)
  (h:gate_session_line (SG i t (bufG g (g.Buf.drop (e+2))) o) (bstr (g.Buf.take e))=some (SG i t g' o')):gate_session_step (SG i t g o)=some (true,SG i t g' o'):=by
 unfold gate_session_step
 have hI:cutI g.Buf [13,10]=(e:Int):=by rw [cutI_eq hb,hx]
 have hL:cutL g.Buf [13,10]=g.Buf.take e:=by unfold cutL; rw [if_pos (by omega),hI]; rfl
 have hR:cutR g.Buf [13,10]=g.Buf.drop (e+2):=by unfold cutR; rw [hI]; rfl
 refine cnd_f (beq_eq_false_iff_ne.2 h4) (bnd (cutO_of hb (by show g.Buf.length<_; omega)) (cnd_t (decide_eq_true (by show 0≤cutI g.Buf [13,10]; omega)) ?_))
 rw [← hL,← hR] at h
 exact bnd rfl (bnd h rfl)
theorem comp_line {i t x:Int} {g:T_Gate} {o:List T_Out} (h4:g.Phase≠4):gate_session_complete (SG i t g o) x=some ((x==10)||decide (512<(g.Buf.length:Int)),SG i t g o):=by
 unfold gate_session_complete
 refine cnd_f (beq_eq_false_iff_ne.2 h4) ?_
 generalize (x==10)=c
 cases c
 ·exact bndL (s:=decide (512<(g.Buf.length:Int))) (cnd_f rfl rfl) rfl
 ·exact bndL (s:=true) (cnd_t rfl rfl) rfl
def ByteG (i t:Int) (k:Nat) (x:Int) (p q:T_Gate×List T_Out):Prop :=
 p.1.Buf.length<100000∧∃ c:Bool,(if k=0 then c=true else gate_session_complete (SG i t (bufG p.1 (p.1.Buf++[x])) p.2) x=some (c,SG i t (bufG p.1 (p.1.Buf++[x])) p.2)) ∧
  (if c=true then gate_session_run (SG i t (bufG p.1 (p.1.Buf++[x])) p.2)=some (SG i t q.1 q.2) else q=(bufG p.1 (p.1.Buf++[x]),p.2))
theorem cfG_ok:gate_Config cfG=some 0:=by kernel_rfl
theorem clone_eq {g:T_Gate} (h1:g.To.length<100000) (h2:g.Buf.length<1000000):clone_Gate g=some g:=by
 unfold clone_Gate clone_List_api_Path clone_List_byte
 exact bnd (bnd (app_of (k:=40) (l:=[]) (m:=g.To) (by simp; omega) (by simp; omega)) rfl) (bnd (bnd (app_of (k:=1) (l:=[]) (m:=g.Buf) (by simp; omega) (by simp; omega)) rfl) rfl)
theorem feed_eq {i t:Int} (g:T_Gate) (b:List Int) (st:Nat→T_Gate×List T_Out) (h0:st 0=(g,[])) (hi:i=0∨i=1) (ht:0≤t∧t≤1099511627776) (hv:gate_valid g=some true) (hb:b.length<1000000)
  (hg:g.To.length<100000∧g.Buf.length<1000000) (he:(st b.length).1.To.length<100000∧(st b.length).1.Buf.length<1000000) (hs:∀ k (hk:k<b.length),ByteG i t k b[k] (st k) (st (k+1))) :
  gate_Feed cfG i t g b=some ((st b.length).1,(st b.length).2,0):=by
 unfold gate_Feed
 have hlt:(bindS (S:=Bool) (A:=(T_Gate×(List T_Out)×Int)) (some (.inl false)) (fun _=>none) some:Option (T_Gate×(List T_Out)×Int))=none:=rfl
 have ha:decide (t<0)=false:=decide_eq_false (by omega)
 have hc:decide (1099511627776<t)=false:=decide_eq_false (by omega)
 refine bnd cfG_ok (cnd_f rfl (bndL (s:=false) ?_ (cnd_f rfl (bnd (clone_eq hg.1 hg.2) ?_))))
 ·rcases hi with rfl | rfl
  ·exact cnd_f rfl (cnd_f ha (cnd_f hc (bnd hv rfl)))
  ·exact cnd_t rfl (cnd_f rfl (cnd_f ha (cnd_f hc (bnd hv rfl))))
 refine bndL (s:=tG i t (st b.length)) (loop_from (fun k=>((tG i t (st k)).1,(tG i t (st k)).2.1,(tG i t (st k)).2.2.1,(tG i t (st k)).2.2.2.1,(tG i t (st k)).2.2.2.2.1,(tG i t (st k)).2.2.2.2.2.1,(tG i t (st k)).2.2.2.2.2.2.1,(tG i t (st k)).2.2.2.2.2.2.2.1,(tG i t (st k)).2.2.2.2.2.2.2.2.1,(tG i t (st k)).2.2.2.2.2.2.2.2.2.1,(⟨#[97]⟩:ByteArray),(⟨#[98]⟩:ByteArray),9,(⟨#[117]⟩:ByteArray),(⟨#[115]⟩:ByteArray),9000,false,i,t,(st k).2,(k:Int))) b.length _ (by dsimp only; rw [h0]; rfl) (by simp only [BIG]; omega) (fun k hk => ?_) ?_) ?_
 ·obtain ⟨h1,c,h2,h3⟩:=hs k hk
  refine cnd_t (decide_eq_true (by omega)) (bndL (s:=tG i t (st (k+1))) (bnd (ixO_of hk) (bnd (getO_of hk) (bnd (app_of (k:=1) (l:=(st k).1.Buf) (m:=[b[k]]) (by simp; omega) (by simp; omega)) ?_))) (bnd (some_wrap (by omega) (by omega)) rfl))
  have hz:((k:Int)==0)=decide (k=0):=by rw [Bool.eq_iff_iff,decide_eq_true_eq,beq_iff_eq]; omega
  by_cases hk0:k=0
  ·rw [if_pos hk0] at h2; subst h2
   rw [if_pos rfl] at h3
   exact bndL (s:=((st k).1.Phase,(st k).1.Helo,(st k).1.From.Null,(st k).1.From.Local,(st k).1.From.Domain,(st k).1.To,(st k).1.Quiet,(st k).1.Buf++[b[k]],(st k).1.Challenge,(st k).1.Proved,(⟨#[97]⟩:ByteArray),(⟨#[98]⟩:ByteArray),9,(⟨#[117]⟩:ByteArray),(⟨#[115]⟩:ByteArray),9000,false,i,t,(st k).2,true)) (cnd_t (by rw [hz]; exact decide_eq_true hk0) rfl) (cnd_t rfl (bnd h3 rfl))
  ·rw [if_neg hk0] at h2
   refine bndL (s:=((st k).1.Phase,(st k).1.Helo,(st k).1.From.Null,(st k).1.From.Local,(st k).1.From.Domain,(st k).1.To,(st k).1.Quiet,(st k).1.Buf++[b[k]],(st k).1.Challenge,(st k).1.Proved,(⟨#[97]⟩:ByteArray),(⟨#[98]⟩:ByteArray),9,(⟨#[117]⟩:ByteArray),(⟨#[115]⟩:ByteArray),9000,false,i,t,(st k).2,c)) (cnd_f (by rw [hz]; exact decide_eq_false hk0) (bnd h2 rfl)) ?_
   cases c
   ·rw [if_neg (by decide)] at h3
    rw [h3]; exact cnd_f rfl rfl
   ·rw [if_pos rfl] at h3
    exact cnd_t rfl (bnd h3 rfl)
 ·exact cnd_f (decide_eq_false (by omega)) rfl
 ·exact bnd (clone_eq he.1 he.2) rfl
end Go.Abs.Sh
