import Derived.Test.YtglabbpbianmnaaGreatDoorBunE
namespace Go.Abs.Sh
set_option linter.unusedVariables false
set_option linter.unusedSimpArgs false
set_option maxRecDepth 10000
def bcS (b:T_Bundle):((Int))→Option ((Int)⊕((Unit)⊕Int)):=(fun (s28:Int) =>
       cond ((decide (s28<(b.Mails.length:Int))))
        ((ixO s28 b.Mails.length).bind fun v12 =>
        (getO b.Mails v12).bind fun v13 =>
        bindS (S:=Bool) (A:=((Int)⊕((Unit)⊕Int)))
         ((bundle_validMail ((T_Mail.mk (T_Path.mk v13.From.Null v13.From.Local v13.From.Domain) v13.To v13.Body v13.Quiet v13.Helo v13.At))).bind fun v14 =>
         cond ((!v14))
          (some (.inl true))
          (cond (v13.Quiet)
           (some (.inl true))
           (cond ((!(v13.Helo.toList==(⟨#[]⟩:ByteArray).toList)))
            (some (.inl true))
            (some (.inl (v13.At != 0))))))
         (fun (s42:Bool) =>
          cond (s42)
           (some (.inr (.inr (5))))
           ((some (IntKind.i64.wrap (s28+1))).bind fun v20 =>
           some (.inl v20))) some)
        (some (.inr (.inl ()))))
theorem loop_prop {f:Int→Option (Int⊕(Unit⊕Int))} {P:Nat→Prop} (n:Nat) (h:∀ i:Nat,i<n→(f (i:Int)=some (.inl ((i+1:Nat):Int))∧P i)∨f (i:Int)=some (.inr (.inr 5))) (hend:f (n:Int)=some (.inr (.inl ()))) :
  ∀ (d i fuel:Nat),i+d=n→d<fuel→(loopF f fuel (i:Int)=some (.inl ())∧∀ j,i≤j→j<n→P j)∨loopF f fuel (i:Int)=some (.inr 5)
 | d,i,0,_,hf=>absurd hf (Nat.not_lt_zero d)
 | 0,i,fuel+1,hd,hf=>by
  obtain rfl:i=n:=by omega
  exact .inl ⟨loop_exit hend,fun j h1 h2=>by omega⟩
 | d+1,i,fuel+1,hd,hf=>by
  rcases h i (by omega) with ⟨h1,hp⟩ | h1
  ·rcases loop_prop n h hend d (i+1) fuel (by omega) (by omega) with ⟨h2,h3⟩ | h2
   ·refine .inl ⟨by rw [loop_next h1]; exact h2,fun j h4 h5 => ?_⟩
    by_cases e:j=i
    ·rw [e]; exact hp
    ·exact h3 j (by omega) h5
   ·exact .inr (by rw [loop_next h1]; exact h2)
  ·exact .inr (loop_exit h1)
theorem chk_eq {b:T_Bundle} (hm:∀ m∈b.Mails,LM m∧byt m.Body) (hl:b.Mails.length≤20) :
  ∃ e,bundle_Check b=some e∧(e=0∨e=5)∧(e=0→(b.Origin=0∨b.Origin=1)∧1≤b.Number∧b.Number≤65535∧1≤b.Mails.length∧b.Mails.length≤4∧∀ m∈b.Mails,Vm m):=by
 unfold bundle_Check
 have five:∀ {Q:Prop},(5:Int)=0→Q:=fun h=>absurd h (by decide)
 by_cases o:b.Origin=0∨b.Origin=1
 case neg =>
  have o0:b.Origin≠0:=fun h=>o (.inl h)
  have o1:b.Origin≠1:=fun h=>o (.inr h)
  exact ⟨5,bndL (s:=true) (cnd_t (by simpa using o0) (cnd_t (by simpa using o1) rfl)) (cnd_t rfl rfl),.inr rfl,five⟩
 by_cases nn:1≤b.Number∧b.Number≤65535
 case neg =>
  refine ⟨5,bndL (s:=true) ?_ (cnd_t rfl rfl),.inr rfl,five⟩
  have tail:∀ {A:Type},(cond (decide (b.Number<1)) (some (.inl true)) (some (.inl (decide (65535<b.Number)))):Option (Bool⊕A))=some (.inl true):=by
   intro A
   by_cases h:b.Number<1
   ·exact cnd_t (decide_eq_true h) rfl
   ·exact cnd_f (decide_eq_false h) (inl_of (decide_eq_true (by omega)))
  rcases o with o | o
  ·exact cnd_f (by rw [o]; rfl) tail
  ·exact cnd_t (by rw [o]; rfl) (cnd_f (by rw [o]; rfl) tail)
 have first:(cond (b.Origin != 0) (cond (b.Origin != 1) (some (.inl true)) (cond (decide (b.Number<1)) (some (.inl true)) (some (.inl (decide (65535<b.Number)))))) (cond (decide (b.Number<1)) (some (.inl true)) (some (.inl (decide (65535<b.Number))))):Option (Bool⊕Int))=some (.inl false):=by
  have tail:(cond (decide (b.Number<1)) (some (.inl true)) (some (.inl (decide (65535<b.Number)))):Option (Bool⊕Int))=some (.inl false):=cnd_f (decide_eq_false (by omega)) (inl_of (decide_eq_false (by omega)))
  rcases o with o | o
  ·exact cnd_f (by rw [o]; rfl) tail
  ·exact cnd_t (by rw [o]; rfl) (cnd_f (by rw [o]; rfl) tail)
 by_cases ml:1≤b.Mails.length∧b.Mails.length≤4
 case neg =>
  refine ⟨5,bndL first (cnd_f rfl (bndL (s:=true) ?_ (cnd_t rfl rfl))),.inr rfl,five⟩
  by_cases h:b.Mails.length<1
  ·exact cnd_t (decide_eq_true (by omega)) rfl
  ·exact cnd_f (decide_eq_false (by omega)) (inl_of (decide_eq_true (by omega)))
 have hstep:∀ i:Nat,i<b.Mails.length→(bcS b (i:Int)=some (.inl ((i+1:Nat):Int))∧(∀ hi:i<b.Mails.length,Vm b.Mails[i]))∨bcS b (i:Int)=some (.inr (.inr 5)):=by
  intro i hi
  obtain ⟨h3,h4⟩:=hm _ (List.getElem_mem hi)
  obtain ⟨c,hc,hv⟩:=vm_eq h3 h4
  have hg:getO b.Mails i=some b.Mails[i]:=by simp [getO,hi]
  obtain ⟨x,hx⟩:∃ x:Bool,((bundle_validMail b.Mails[i]).bind fun v14=>cond ((!v14)) (some (.inl true)) (cond (b.Mails[i].Quiet) (some (.inl true)) (cond ((!(b.Mails[i].Helo.toList==(⟨#[]⟩:ByteArray).toList))) (some (.inl true)) (some (.inl (b.Mails[i].At != 0))))):Option (Bool⊕(Int⊕(Unit⊕Int))))=some (.inl x)∧(x=false→c=true):=by
   cases c
   ·exact ⟨true,bnd hc rfl,fun h=>by cases h⟩
   ·cases hq:b.Mails[i].Quiet
    ·cases hh:(!(b.Mails[i].Helo.toList==(⟨#[]⟩:ByteArray).toList))
     ·exact ⟨_,bnd hc (cnd_f rfl rfl),fun _=>rfl⟩
     ·exact ⟨true,bnd hc (cnd_f rfl rfl),fun _=>rfl⟩
    ·exact ⟨true,bnd hc (cnd_f rfl rfl),fun _=>rfl⟩
  cases x
  ·exact .inl ⟨cnd_t (decide_eq_true (by omega)) (bnd (ixO_of hi) (bnd hg (bndL hx.1 (cnd_f rfl (bnd (congrArg some (wrap_succ (n:=i) (by omega))) rfl))))),fun _=>hv (hx.2 rfl)⟩
  ·exact .inr (cnd_t (decide_eq_true (by omega)) (bnd (ixO_of hi) (bnd hg (bndL hx.1 (cnd_t rfl rfl)))))
 rcases loop_prop (f:=bcS b) (P:=fun i=>∀ hi:i<b.Mails.length,Vm b.Mails[i]) b.Mails.length hstep (cnd_f (decide_eq_false (by omega)) rfl) b.Mails.length 0 BIG (by omega) (by simp only [BIG]; omega) with ⟨h1,h2⟩ | h1
 ·refine ⟨0,bndL first (cnd_f rfl (bndL (s:=false) (cnd_f (decide_eq_false (by omega)) (inl_of (decide_eq_false (by omega)))) (cnd_f rfl (bndL (s:=()) h1 rfl)))),.inl rfl,fun _=>⟨o,nn.1,nn.2,ml.1,ml.2,fun m hmm => ?_⟩⟩
  obtain ⟨i,hi,rfl⟩:=List.getElem_of_mem hmm
  exact h2 i (by omega) hi hi
 ·exact ⟨5,bndL first (cnd_f rfl (bndL (s:=false) (cnd_f (decide_eq_false (by omega)) (inl_of (decide_eq_false (by omega)))) (cnd_f rfl (bndR (a:=5) h1 rfl)))),.inr rfl,five⟩
end Go.Abs.Sh
