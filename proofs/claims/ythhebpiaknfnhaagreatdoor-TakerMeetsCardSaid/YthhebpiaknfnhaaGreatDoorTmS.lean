import Derived.Test.YthhebpiaknfnhaaGreatDoorLoopM
import Derived.Test.YthhebpiaknfnhaaGreatDoorKeepM
import Derived.Test.YthhebpiaknfnhaaGreatDoorStrM
import Derived.KernelRfl
namespace Go.Abs.Sh
set_option linter.unusedVariables false
set_option linter.unusedSimpArgs false
set_option maxRecDepth 10000
theorem c_and {A:Type} (b x:Bool):cond b (some (Sum.inl x:Bool⊕A)) (some (.inl false))=some (.inl (b&&x)):=by cases b <;> rfl
theorem c_or {A:Type} (b x:Bool):cond b (some (Sum.inl true:Bool⊕A)) (some (.inl x))=some (.inl (b||x)):=by cases b <;> rfl
theorem c_inl {S A:Type} (b:Bool) (x y:S):cond b (some (Sum.inl x:S⊕A)) (some (.inl y))=some (.inl (cond b x y)):=by cases b <;> rfl
theorem c_some {A:Type} (b:Bool) (x y:A):cond b (some x) (some y)=some (cond b x y):=by cases b <;> rfl
theorem b_inl {S A R:Type} (s:S) (k:S→Option R) (e:A→Option R):bindS (some (.inl s)) k e=k s:=rfl
def offIn (f:T_Frame):Bool:=decide (0≤f.Offset)&&decide (f.Offset≤5000)
def seqIn (f:T_Frame):Bool:=decide (0≤f.Seq)&&decide (f.Seq≤7)
def numIn (f:T_Frame):Bool:=decide (1≤f.Number)&&decide (f.Number≤65535)
def good (f:T_Frame):Bool :=
 numIn f&&((f.Kind==1||f.Kind==2)&&(offIn f&&(f.Seq==0)&&(f.Data.length==0)) ||
  (f.Kind==3)&&(offIn f&&seqIn f&&decide (1≤f.Data.length)&&decide (f.Data.length≤48)) ||
  (f.Kind==4)&&((f.Offset==0)&&seqIn f&&(f.Data.length==0)) ||
  (f.Kind==5)&&((f.Offset==0)&&(f.Seq==0)&&(f.Data.length==0)))
theorem len0 (l:List Int):((l.length:Int)==0)=(l.length==0):=by cases l <;> simp <;> omega
theorem fcheck_eq (f:T_Frame):frame_Check f=some (cond (good f) 0 1):=by
 unfold frame_Check
 simp only [c_and,c_or,c_inl,b_inl,len0]
 simp only [c_some]
 congr 1
 unfold good offIn seqIn numIn
 have e1:decide (f.Number<1) = !decide (1≤f.Number):=by by_cases h:1≤f.Number <;> simp [h] <;> omega
 have e2:decide (65535<f.Number) = !decide (f.Number≤65535):=by by_cases h:f.Number≤65535 <;> simp [h] <;> omega
 have e3:decide ((f.Data.length:Int)≤48)=decide (f.Data.length≤48):=by by_cases h:f.Data.length≤48 <;> simp [h] <;> omega
 have e4:decide (1≤f.Data.length) = !(f.Data.length==0):=by cases h:f.Data.length <;> simp
 rw [e1,e2,e3,e4]
 by_cases h1:f.Kind=1
 ·simp only [h1]; cases decide (1≤f.Number) <;> cases decide (f.Number≤65535) <;> simp <;> cases decide (0≤f.Offset) <;> cases decide (f.Offset≤5000) <;> cases (f.Seq==0) <;> cases (f.Data.length==0) <;> simp
 by_cases h2:f.Kind=2
 ·simp only [h2]; cases decide (1≤f.Number) <;> cases decide (f.Number≤65535) <;> simp <;> cases decide (0≤f.Offset) <;> cases decide (f.Offset≤5000) <;> cases (f.Seq==0) <;> cases (f.Data.length==0) <;> simp
 by_cases h3:f.Kind=3
 ·simp only [h3]; cases decide (1≤f.Number) <;> cases decide (f.Number≤65535) <;> simp <;> cases decide (0≤f.Offset) <;> cases decide (f.Offset≤5000) <;> cases decide (0≤f.Seq) <;> cases decide (f.Seq≤7) <;> cases (f.Data.length==0) <;> cases decide (f.Data.length≤48) <;> simp
 by_cases h4:f.Kind=4
 ·simp only [h4]; cases decide (1≤f.Number) <;> cases decide (f.Number≤65535) <;> simp <;> cases (f.Offset==0) <;> cases decide (0≤f.Seq) <;> cases decide (f.Seq≤7) <;> cases (f.Data.length==0) <;> simp
 by_cases h5:f.Kind=5
 ·simp only [h5]; cases decide (1≤f.Number) <;> cases decide (f.Number≤65535) <;> simp <;> cases (f.Offset==0) <;> cases (f.Seq==0) <;> cases (f.Data.length==0) <;> simp
 have k1:(f.Kind==1)=false:=by simp [h1]
 have k2:(f.Kind==2)=false:=by simp [h2]
 have k3:(f.Kind==3)=false:=by simp [h3]
 have k4:(f.Kind==4)=false:=by simp [h4]
 have k5:(f.Kind==5)=false:=by simp [h5]
 simp [k1,k2,k3,k4,k5]
theorem c_self {A:Type} (b x:Bool):cond b (some (Sum.inl b:Bool⊕A)) (some (.inl x))=some (.inl (b||x)):=by cases b <;> rfl
theorem c_fls {A:Type} (b x:Bool):cond b (some (Sum.inl false:Bool⊕A)) (some (.inl x))=some (.inl (!b&&x)):=by cases b <;> rfl
theorem c_not {A:Type} (b:Bool) (x y:A):cond (!b) x y=cond b y x:=by cases b <;> rfl
def pcs (s:T_Send):Int:=(((s.Data.length+47) / 48:Nat):Int)
def wnd (s:T_Send):Int:=if pcs s<IntKind.i64.wrap (s.Base+7) then pcs s else IntKind.i64.wrap (s.Base+7)
theorem pcs_bd (s:T_Send):48 * pcs s≤(s.Data.length:Int)+47∧(s.Data.length:Int)≤48 * pcs s:=by unfold pcs; omega
theorem pieces_raw (n:Nat) (h:n≤100000):((some (IntKind.i64.wrap ((n:Int)+48))).bind fun v1=>(some (IntKind.i64.wrap (v1-1))).bind fun v2=>(quoO .i64 v2 48).bind fun v3=>some (v3))=some (((n+47) / 48:Nat):Int):=by
 have w1:IntKind.i64.wrap ((n:Int)+48)=((n+48:Nat):Int):=by rw [wrap_i64 (by omega) (by omega)]; simp
 have w2:IntKind.i64.wrap (((n+48:Nat):Int)-1)=((n+47:Nat):Int):=by rw [wrap_i64 (by omega) (by omega)]; omega
 have q:quoO .i64 ((n+47:Nat):Int) 48=some (((n+47) / 48:Nat):Int):=by
  simp only [quoO]
  rw [if_neg (by omega),Int.tdiv_eq_ediv_of_nonneg (by omega),wrap_i64 (by omega) (by omega)]
  rfl
 exact bnd (x:=((n+48:Nat):Int)) (by rw [w1]) (bnd (x:=((n+47:Nat):Int)) (by rw [w2]) (bnd q rfl))
theorem pieces_eq (s:T_Send) (h:s.Data.length≤100000):sender_pieces s=some (pcs s):=pieces_raw _ h
theorem window_eq (s:T_Send) (h:s.Data.length≤100000):sender_window s=some (wnd s):=by
 unfold sender_window
 exact bnd rfl (bnd (pieces_eq s h) rfl)
def sendOk (s:T_Send):Bool :=
 (decide (1≤s.Number)&&decide (s.Number≤65535))&&((decide (1≤(s.Data.length:Int))&&decide ((s.Data.length:Int)≤5000))&&((decide (0≤s.Base)&&decide (s.Base≤pcs s))&&((decide (s.Base≤s.Next)&&decide (s.Next≤wnd s))&&((decide (0≤s.Wait)&&decide (s.Wait≤3))&&(s.Ready||(s.Base==0&&s.Next==0))))))
theorem check_eqS (s:T_Send) (h:s.Data.length≤100000):sender_Check s=some (cond (sendOk s) 0 1):=by
 unfold sender_Check
 rw [pieces_eq s h,window_eq s h]
 simp only [Option.bind_some,c_and,c_or,c_self,c_not,c_fls,b_inl]
 have e:∀ (a b:Bool),(!a)=b→cond b (some (1:Int)) (some 0)=some (cond a 0 1):=by intro a b hb; subst hb; cases a <;> rfl
 refine e _ _ ?_
 unfold sendOk
 rw [Bool.eq_iff_iff]
 cases s.Ready
 ·simp
 ·simp
structure Rt (s:T_Send):Prop where
 n1:1≤s.Number
 n2:s.Number≤65535
 l1:1≤s.Data.length
 l2:s.Data.length≤5000
 b0:0≤s.Base
 bP:s.Base≤pcs s
 nB:s.Base≤s.Next
 nW:s.Next≤s.Base+7
 nP:s.Next≤pcs s
 w0:0≤s.Wait
 w3:s.Wait≤3
 rd:s.Ready=true∨(s.Base=0∧s.Next=0)
theorem wnd_eq (s:T_Send) (h0:0≤s.Base) (h1:s.Base≤100000):wnd s=if pcs s<s.Base+7 then pcs s else s.Base+7:=by
 unfold wnd; rw [wrap_i64 (by omega) (by omega)]
theorem ok_of {s:T_Send} (h:Rt s):sendOk s=true:=by
 have hb:=pcs_bd s
 have l2:=h.l2
 have bP:=h.bP
 have hw:=wnd_eq s h.b0 (by omega)
 unfold sendOk
 simp only [Bool.and_eq_true,Bool.or_eq_true,decide_eq_true_eq,beq_iff_eq]
 refine ⟨⟨h.n1,h.n2⟩,⟨by have:=h.l1; omega,by omega⟩,⟨h.b0,h.bP⟩,⟨h.nB,?_⟩,⟨h.w0,h.w3⟩,h.rd⟩
 rw [hw]
 have:=h.nW
 have:=h.nP
 split <;> omega
theorem check_rt {s:T_Send} (h:Rt s):sender_Check s=some 0:=by
 rw [check_eqS s (by have:=h.l2; omega),ok_of h]; rfl
theorem list_eq (l:List Int) (h:l.length≤100000):clone_List_byte l=some l:=by
 unfold clone_List_byte
 exact bnd (x:=l) (by simp only [appO]; rw [if_pos (by simp; omega)]; simp) rfl
theorem sclone_eq (s:T_Send) (h:s.Data.length≤100000):clone_Send s=some s:=by
 unfold clone_Send
 exact bnd (list_eq _ h) rfl
def zeroSend:T_Send:=T_Send.mk 0 [] false 0 0 0 false
def ackS (s:T_Send) (seq:Int):((Int))→Option ((Int)⊕((Unit)⊕(Bool×T_Send))):=(fun (s10:Int) =>
  cond ((decide (s10≤s.Next)))
   ((remO s10 8).bind fun v4 =>
   cond ((v4==seq))
    (some (.inr (.inr ((true,(T_Send.mk s.Number s.Data s.Ready s10 s.Next 3 s.Over))))))
    ((some (IntKind.i64.wrap (s10+1))).bind fun v6 =>
    some (.inl v6)))
   (some (.inr (.inl ()))))
theorem rem8 (a:Nat):remO (a:Int) 8=some ((a % 8:Nat):Int):=by
 simp only [remO]
 rw [if_neg (by omega),Int.tmod_eq_emod_of_nonneg (by omega)]
 rfl
theorem ack_none (s:T_Send) (n q:Nat) (hN:s.Next=(n:Int)) (hn:n≤1000):∀ (k fuel a:Nat),n+1-a=k→k<fuel→(∀ j,a≤j→j≤n→j % 8≠q)→loopF (ackS s (q:Int)) fuel (a:Int)=some (.inl ()):=by
 intro k
 induction k with
 | zero =>
  intro fuel a hk hf hno
  obtain ⟨f,rfl⟩:∃ f,fuel=f+1:=⟨fuel-1,by omega⟩
  refine loop_exit ?_
  unfold ackS; exact cnd_f (by rw [hN]; simp; omega) rfl
 | succ k ih =>
  intro fuel a hk hf hno
  obtain ⟨f,rfl⟩:∃ f,fuel=f+1:=⟨fuel-1,by omega⟩
  have w:IntKind.i64.wrap ((a:Int)+1)=((a+1:Nat):Int):=by rw [wrap_i64 (by omega) (by omega)]; simp
  refine (loop_next ?_).trans (ih f (a+1) (by omega) (by omega) fun j h1 h2=>hno j (by omega) h2)
  have:=hno a (Nat.le_refl _) (by omega)
  unfold ackS
  exact cnd_t (by rw [hN]; simp; omega) (bnd (rem8 a) (cnd_f (by simp; omega) (bnd (x:=((a+1:Nat):Int)) (by rw [w]) rfl)))
theorem ack_some (s:T_Send) (n q a0:Nat) (hN:s.Next=(n:Int)) (hn:n≤1000) (ha0:a0≤n) (hq:a0 % 8=q):∀ (k fuel a:Nat),a0-a=k→a≤a0→k<fuel→(∀ j,a≤j→j<a0→j % 8≠q) →
  loopF (ackS s (q:Int)) fuel (a:Int)=some (.inr (true,T_Send.mk s.Number s.Data s.Ready (a0:Int) s.Next 3 s.Over)):=by
 intro k
 induction k with
 | zero =>
  intro fuel a hk hle hf hno
  obtain ⟨f,rfl⟩:∃ f,fuel=f+1:=⟨fuel-1,by omega⟩
  obtain rfl:a=a0:=by omega
  refine loop_exit ?_
  unfold ackS; exact cnd_t (by rw [hN]; simp; omega) (bnd (rem8 a) (cnd_t (by simp; omega) rfl))
 | succ k ih =>
  intro fuel a hk hle hf hno
  obtain ⟨f,rfl⟩:∃ f,fuel=f+1:=⟨fuel-1,by omega⟩
  have w:IntKind.i64.wrap ((a:Int)+1)=((a+1:Nat):Int):=by rw [wrap_i64 (by omega) (by omega)]; simp
  refine (loop_next ?_).trans (ih f (a+1) (by omega) (by omega) (by omega) fun j h1 h2=>hno j (by omega) h2)
  have:=hno a (Nat.le_refl _) (by omega)
  unfold ackS
  exact cnd_t (by rw [hN]; simp; omega) (bnd (rem8 a) (cnd_f (by simp; omega) (bnd (x:=((a+1:Nat):Int)) (by rw [w]) rfl)))
theorem hear_ack {s:T_Send} (h:Rt s) (ho:s.Over=false) (q:Nat) (hq:q<8) (r:Bool×T_Send) (hr:sender_ack s (q:Int)=some r) :
  sender_Hear s (T_Frame.mk 4 s.Number 0 (q:Int) [])=some (cond r.1 (r.2,0) (zeroSend,11)):=by
 have hg:good (T_Frame.mk 4 s.Number 0 (q:Int) [])=true:=by
  have:=h.n1; have:=h.n2
  simp [good,numIn,seqIn]; omega
 unfold sender_Hear
 refine bnd (check_rt h) (cnd_f rfl (bnd (fcheck_eq _) ?_))
 rw [hg]
 refine cnd_f rfl (bndL (s:=false) (cnd_f (by simp) (by rw [ho])) (cnd_f rfl (bnd (sclone_eq s (by have:=h.l2; omega)) ?_)))
 refine bndL (bndL (cnd_f rfl (cnd_t rfl (bnd hr rfl))) rfl) ?_
 obtain ⟨b,t⟩:=r
 cases b
 ·exact cnd_t rfl rfl
 ·exact cnd_f rfl rfl
def tickS (v3:T_Send) (v4:Int):(((List T_Frame)×Int))→Option (((List T_Frame)×Int)⊕(((List T_Frame))⊕((Bool×Int×Int×Int×(List T_Frame))⊕(T_Send×(List T_Frame)×Int)))):=(fun ((s59,s60):(List T_Frame)×Int) =>
        cond ((decide (s60<v4)))
         ((sender_piece v3 s60).bind fun v18 =>
         (appO 56 s59 [v18]).bind fun v19 =>
         (some (IntKind.i64.wrap (s60+1))).bind fun v20 =>
         some (.inl (v19,v20)))
         (some (.inr (.inl s59))))
def pieceD (s:T_Send) (i:Nat):List Int:=(s.Data.drop (48 * i)).take 48
def pieceF (s:T_Send) (i:Nat):T_Frame:=T_Frame.mk 3 s.Number ((48 * i:Nat):Int) ((i % 8:Nat):Int) (pieceD s i)
def helloF (s:T_Send):T_Frame:=T_Frame.mk 1 s.Number (s.Data.length:Int) 0 []
theorem slice_piece (l:List Int) (i:Nat) (h:48 * i≤l.length):sliO l ((48 * i:Nat):Int) (if ((l.length:Nat):Int)<((48 * i+48:Nat):Int) then ((l.length:Nat):Int) else ((48 * i+48:Nat):Int))=some ((l.drop (48 * i)).take 48):=by
 unfold sliO
 by_cases hc:l.length<48 * i+48
 ·rw [if_pos (show ((l.length:Nat):Int)<((48 * i+48:Nat):Int) by omega),if_pos (by omega)]
  simp only [Int.toNat_natCast]
  rw [List.take_of_length_le (by rw [List.length_drop]; omega),List.take_of_length_le (by rw [List.length_drop]; omega)]
 ·rw [if_neg (show ¬ ((l.length:Nat):Int)<((48 * i+48:Nat):Int) by omega),if_pos (by omega)]
  simp only [Int.toNat_natCast]
  rw [show 48 * i+48-48 * i=48 by omega]
theorem pieceD_len (s:T_Send) (i:Nat):(pieceD s i).length=min 48 (s.Data.length-48 * i):=by simp [pieceD]
theorem piece_eq (s:T_Send) (i:Nat) (hl:s.Data.length≤5000) (hi:48 * i≤s.Data.length):sender_piece s (i:Int)=some (pieceF s i):=by
 unfold sender_piece
 have w1:IntKind.i64.wrap ((i:Int) * 48)=((48 * i:Nat):Int):=by rw [wrap_i64 (by omega) (by omega)]; omega
 have w2:IntKind.i64.wrap (((48 * i:Nat):Int)+48)=((48 * i+48:Nat):Int):=by rw [wrap_i64 (by omega) (by omega)]; omega
 have hd:=pieceD_len s i
 exact bnd (x:=((48 * i:Nat):Int)) (by rw [w1]) (bnd (x:=((48 * i+48:Nat):Int)) (by rw [w2]) (bnd rfl (bnd (rem8 i) (bnd (slice_piece s.Data i hi) (bnd (list_eq (pieceD s i) (by omega)) rfl)))))
def frames (s:T_Send) (a n:Nat):List T_Frame:=(List.range n).map fun k=>pieceF s (a+k)
theorem frames_len (s:T_Send) (a n:Nat):(frames s a n).length=n:=by simp [frames]
theorem frames_get (s:T_Send) (a n k:Nat) (h:k<n):getO (frames s a n) k=some (pieceF s (a+k)):=by simp [getO,frames,h]
theorem tick_loop (s:T_Send) (hl:s.Data.length≤5000) (w:Nat) (hw:∀ i,i<w→48 * i≤s.Data.length) (hw2:w≤1000):∀ (k fuel a:Nat) (l:List T_Frame),w-a=k→k<fuel→l.length≤1000-k →
  loopF (tickS s (w:Int)) fuel (l,(a:Int))=some (.inl (l++frames s a (w-a))):=by
 intro k
 induction k with
 | zero =>
  intro fuel a l hk hf hll
  obtain ⟨f,rfl⟩:∃ f,fuel=f+1:=⟨fuel-1,by omega⟩
  refine loop_exit ?_
  rw [hk]
  unfold tickS; exact cnd_f (by simp; omega) (by simp [frames])
 | succ k ih =>
  intro fuel a l hk hf hll
  obtain ⟨f,rfl⟩:∃ f,fuel=f+1:=⟨fuel-1,by omega⟩
  have w1:IntKind.i64.wrap ((a:Int)+1)=((a+1:Nat):Int):=by rw [wrap_i64 (by omega) (by omega)]; simp
  have e:l++frames s a (w-a)=(l++[pieceF s a])++frames s (a+1) (w-(a+1)):=by
   rw [show w-a=(w-(a+1))+1 by omega]
   simp only [frames,List.range_succ_eq_map,List.map_cons,List.map_map,List.append_assoc,List.cons_append,List.nil_append,Nat.add_zero]
   congr 2
   apply List.map_congr_left
   intro j _
   simp only [Function.comp,Nat.succ_eq_add_one]
   congr 1; omega
  rw [e]
  refine (loop_next ?_).trans (ih f (a+1) (l++[pieceF s a]) (by omega) (by omega) (by simp; omega))
  unfold tickS
  exact cnd_t (by simp; omega) (bnd (piece_eq s a hl (hw a (by omega))) (bnd (x:=l++[pieceF s a]) (by simp only [appO]; rw [if_pos (by simp; omega)]) (bnd (x:=((a+1:Nat):Int)) (by rw [w1]) rfl)))
def tickF (s:T_Send):T_Send×List T_Frame :=
 if s.Over=true then (s,[])
 else if s.Ready=false∨s.Base=pcs s then (if 0<s.Wait then (T_Send.mk s.Number s.Data s.Ready s.Base s.Next (s.Wait-1) s.Over,[]) else (T_Send.mk s.Number s.Data s.Ready s.Base s.Next 3 s.Over,[helloF s]))
 else if s.Next<wnd s then (T_Send.mk s.Number s.Data s.Ready s.Base (wnd s) 3 s.Over,frames s s.Next.toNat ((wnd s).toNat-s.Next.toNat))
 else if s.Wait=0 then (T_Send.mk s.Number s.Data false 0 0 3 s.Over,[helloF s])
 else (T_Send.mk s.Number s.Data s.Ready s.Base s.Next (s.Wait-1) s.Over,[])
theorem hello_eq (s:T_Send):sender_hello s=some (helloF s):=rfl
theorem app1 (f:T_Frame):appO 56 ([]:List T_Frame) [f]=some [f]:=by simp [appO]
theorem tick_eq {s:T_Send} (h:Rt s):sender_Tick s=some ((tickF s).1,(tickF s).2,0):=by
 have l2:=h.l2
 have hl:s.Data.length≤100000:=by omega
 have hb:=pcs_bd s
 unfold sender_Tick
 refine bnd (check_rt h) (cnd_f rfl (bnd (sclone_eq s hl) (bnd (window_eq s hl) ?_)))
 unfold tickF
 by_cases ho:s.Over=true
 ·rw [if_pos ho]
  exact bndL (cnd_t ho rfl) rfl
 rw [if_neg ho]
 have ho':s.Over=false:=by simpa using ho
 have w0:=h.w0
 have w3:=h.w3
 have ww:0<s.Wait→IntKind.i64.wrap (s.Wait-1)=s.Wait-1:=fun _=>wrap_i64 (by omega) (by omega)
 by_cases hq:s.Ready=false∨s.Base=pcs s
 ·rw [if_pos hq]
  have hsel:(cond ((!s.Ready)) (some (.inl true)) ((sender_pieces s).bind fun v6=>some (.inl (s.Base==v6))):Option (Bool⊕((Bool×Int×Int×Int×(List T_Frame))⊕(T_Send×(List T_Frame)×Int))))=some (.inl true):=by
   rcases hq with hq | hq
   ·exact cnd_t (by rw [hq]; rfl) rfl
   ·by_cases hr:s.Ready=false
    ·exact cnd_t (by rw [hr]; rfl) rfl
    ·exact cnd_f (by simpa using hr) (bnd (pieces_eq s hl) (by rw [← hq]; simp))
  by_cases hw:0<s.Wait
  ·rw [if_pos hw]
   exact bndL (cnd_f ho' (bndL hsel (cnd_t rfl (cnd_t (by simpa using hw) (bnd (x:=s.Wait-1) (by rw [ww hw]) rfl))))) rfl
  ·rw [if_neg hw]
   exact bndL (cnd_f ho' (bndL hsel (cnd_t rfl (cnd_f (by simpa using hw) (bnd (hello_eq s) (bnd (app1 _) rfl)))))) rfl
 rw [if_neg hq]
 have hsel:(cond ((!s.Ready)) (some (.inl true)) ((sender_pieces s).bind fun v6=>some (.inl (s.Base==v6))):Option (Bool⊕((Bool×Int×Int×Int×(List T_Frame))⊕(T_Send×(List T_Frame)×Int))))=some (.inl false):=by
  have h1:s.Ready=true:=by
   cases hr:s.Ready
   ·exact absurd (.inl hr) hq
   ·rfl
  have h2:s.Base≠pcs s:=fun e=>hq (.inr e)
  exact cnd_f (by rw [h1]; rfl) (bnd (pieces_eq s hl) (by rw [beq_eq_false_iff_ne.2 h2]))
 have hwe:=wnd_eq s h.b0 (by have:=h.bP; omega)
 have hwb:0≤wnd s∧wnd s≤pcs s:=by
  have:=h.b0
  rw [hwe]; constructor <;> split <;> omega
 by_cases hn:s.Next<wnd s
 ·rw [if_pos hn]
  have hn0:0≤s.Next:=by have:=h.b0; have:=h.nB; omega
  have lp:=tick_loop s (by omega) (wnd s).toNat (fun i hi=>by omega) (by omega) ((wnd s).toNat-s.Next.toNat) BIG s.Next.toNat [] rfl (by unfold BIG; omega) (by simp)
  rw [Int.toNat_of_nonneg hwb.1,Int.toNat_of_nonneg hn0,List.nil_append] at lp
  exact bndL (cnd_f ho' (bndL hsel (cnd_f rfl (cnd_t (by simpa using hn) (bndL lp rfl))))) rfl
 rw [if_neg hn]
 by_cases hw:s.Wait=0
 ·rw [if_pos hw]
  exact bndL (cnd_f ho' (bndL hsel (cnd_f rfl (cnd_f (by simpa using hn) (cnd_t (by simpa using hw) (bnd (hello_eq s) (bnd (app1 _) rfl))))))) rfl
 ·rw [if_neg hw]
  exact bndL (cnd_f ho' (bndL hsel (cnd_f rfl (cnd_f (by simpa using hn) (cnd_f (by simpa using hw) (bnd (x:=s.Wait-1) (by rw [ww (by omega)]) rfl)))))) rfl
theorem hear_ready {s:T_Send} (h:Rt s) (ho:s.Over=false) (off:Nat) (hoff:off≤5000) (r:Bool×T_Send) (hr:sender_ready s (off:Int)=some r) :
  sender_Hear s (T_Frame.mk 2 s.Number (off:Int) 0 [])=some (cond r.1 (r.2,0) (zeroSend,11)):=by
 have hg:good (T_Frame.mk 2 s.Number (off:Int) 0 [])=true:=by
  have:=h.n1; have:=h.n2
  simp [good,numIn,offIn]; omega
 unfold sender_Hear
 refine bnd (check_rt h) (cnd_f rfl (bnd (fcheck_eq _) ?_))
 rw [hg]
 refine cnd_f rfl (bndL (s:=false) (cnd_f (by simp) (by rw [ho])) (cnd_f rfl (bnd (sclone_eq s (by have:=h.l2; omega)) ?_)))
 refine bndL (bndL (cnd_t rfl (bnd hr rfl)) rfl) ?_
 obtain ⟨b,t⟩:=r
 cases b
 ·exact cnd_t rfl rfl
 ·exact cnd_f rfl rfl
theorem quo48 (a:Nat) (h:a≤100000):quoO .i64 (a:Int) 48=some ((a / 48:Nat):Int):=by
 simp only [quoO]
 rw [if_neg (by omega),Int.tdiv_eq_ediv_of_nonneg (by omega),wrap_i64 (by omega) (by omega)]
 rfl
theorem rem48 (a:Nat):remO (a:Int) 48=some ((a % 48:Nat):Int):=by
 simp only [remO]
 rw [if_neg (by omega),Int.tmod_eq_emod_of_nonneg (by omega)]
 rfl
theorem ready_at (s:T_Send) (hl:s.Data.length≤5000) (p:Nat) (hp:(p:Int)≤pcs s):sender_ready s ((min (48 * p) s.Data.length:Nat):Int)=some (true,T_Send.mk s.Number s.Data true (p:Int) (p:Int) 0 s.Over):=by
 have hb:=pcs_bd s
 unfold sender_ready
 by_cases hw:s.Data.length≤48 * p
 ·have e:min (48 * p) s.Data.length=s.Data.length:=by omega
  rw [e]
  have hpe:pcs s=(p:Int):=by omega
  refine bndL (s:=false) (cnd_f (by simp) rfl) (cnd_f rfl (bnd (quo48 _ (by omega)) (bndL (s:=(p:Int)) (cnd_t (by simp) (bnd (pieces_eq s (by omega)) (by rw [hpe]))) rfl)))
 ·have e:min (48 * p) s.Data.length=48 * p:=by omega
  rw [e]
  have hne:(((48 * p:Nat):Int)==(s.Data.length:Int))=false:=by simp; omega
  refine bndL (s:=false) (cnd_t (by rw [hne]; rfl) (cnd_f (by simp; omega) (bnd (rem48 _) ?_))) (cnd_f rfl (bnd (quo48 _ (by omega)) (bndL (s:=(p:Int)) (cnd_f hne ?_) rfl)))
  ·rw [show 48 * p % 48=0 by omega]; rfl
  ·rw [show 48 * p / 48=p by omega]
theorem new_eq (N:Int) (data:List Int) (h:data.length≤100000):sender_New N data=some (cond (sendOk (T_Send.mk N data false 0 0 0 false)) (T_Send.mk N data false 0 0 0 false,0) (zeroSend,1)):=by
 unfold sender_New
 refine bnd (list_eq _ h) (bnd (check_eqS _ h) ?_)
 cases sendOk (T_Send.mk N data false 0 0 0 false) <;> rfl
theorem take48 (data:List Int) (a:Nat):data.take (48 * a)++(data.drop (48 * a)).take 48=data.take (48 * (a+1)):=by
 rw [show 48 * (a+1)=48 * a+48 by omega,List.take_add]
end Go.Abs.Sh
