import Derived.Test.YtckpeedhchjjnaaGreatDoorSh
namespace Go.Abs.Sh
set_option linter.unusedVariables false
theorem Hu {S A R:Type} {m:Option (S⊕A)} {k:S→Option R} {e:A→Option R} {s:S} {r:Option R} (h:m=some (.inl s)) (h2:k s=r):aB m k e=r:=by subst h; exact h2
theorem JC {R:Type} {c:Bool} {x y r:R} (hc:c=false) (h:y=r):cond c x y=r:=by subst hc; exact h
theorem KW {A B R:Type} {m:Option A} {f:A→Option B} {k:B→Option R} {x:B} {r:Option R} (h:m.bind f=some x) (h2:k x=r):(m.bind fun v=>(f v).bind k)=r:=by rw [← Option.bind_assoc,h]; exact h2
theorem KM {A R:Type} {m:Option A} {c:A→Bool} {x y r:Option R} (h:(m.bind fun v=>some (c v))=some true) (h2:x=r):(m.bind fun v=>cond (c v) x y)=r:=by
 cases m with
 | none=>cases h
 | some v =>
  have h3:c v=true:=by simpa using h
  simp only [Option.bind_some,h3,cond_true]; exact h2
theorem Lu {E R:Type} {e:Option E} {f:E→Option R} {n r:Option R} {x:E} (h:e=some x) (h2:f x=r):BP e f n=r:=by subst h; exact h2
def Jc (near:Bool) (s29:ME):((ab×Int))→Option ((ab×Int)⊕((ab)⊕Bool)):=(fun ((s73,s74):ab×Int) =>
 cond ((decide (s74≤60)))
  ((eV (⟨#[60,62]⟩:ME) [s29] []).bind fun v13 =>
  (fP s73 0 v13).bind fun v14 =>
  aB (S:=Bool) (A:=((ab×Int)⊕((ab)⊕Bool)))
   (cond ((v14.2.2.1 != 0))
    (some (.inl true))
    (some (.inl (((v14.1.length:Int) != 40)))))
   (fun (s100:Bool) =>
    cond (s100)
     (none)
     (aB (S:=ME) (A:=((ab×Int)⊕((ab)⊕Bool)))
      (cond ((s74==60))
       (some (.inl (⟨#[52,53,50,32,110,111,13,10]⟩:ME)))
       (some (.inl (⟨#[50,53,48,32,111,107,13,10]⟩:ME))))
      (fun (s106:ME) =>
       aB (S:=Bool) (A:=((ab×Int)⊕((ab)⊕Bool)))
        ((lf v14.1 32 (v14.1.length:Int)).bind fun v46 =>
        (some (wI v46)).bind fun v47 =>
        cond ((!(v47.toList==s106.toList)))
         (some (.inl true))
         (cond (((v14.2.1.length:Int) != 0))
          (cond ((!near))
           (some (.inl true))
           (cond ((s74==60))
            (some (.inl true))
            (cond (near)
             (cond ((decide (s74<60)))
              (some (.inl (((v14.2.1.length:Int) != 1))))
              (some (.inl false)))
             (some (.inl false)))))
          (cond (near)
           (cond ((decide (s74<60)))
            (some (.inl (((v14.2.1.length:Int) != 1))))
            (some (.inl false)))
           (some (.inl false)))))
        (fun (s111:Bool) =>
         cond (s111)
          (none)
          ((some (IntKind.i64.wrap (s74+1))).bind fun v53 =>
          some (.inl (v14.2.2.2,v53)))) some) some)) some)
  (some (.inr (.inl s73))))
def Is (near:Bool):ME:=cond near ⟨#[60,121,64,98,46,120,62]⟩ ⟨#[60,121,64,97,46,120,62]⟩
def Lb (near:Bool):aF:=⟨⟨true,⟨#[]⟩,⟨#[]⟩⟩,[⟨false,⟨#[121]⟩,cond near ⟨#[98,46,120]⟩ ⟨#[97,46,120]⟩⟩],[82,101,99,101,105,118,101,100,58,32,102,114,111,109,32,104,46,120,32,98,121,32,98,46,120,32,119,105,116,104,32,69,83,77,84,80,59,32,48,13,10],false,⟨#[104,46,120]⟩,0⟩
def yV (near:Bool) (k:Nat):ab:=⟨1,⟨[⟨#[97,46,120]⟩,⟨#[98,46,120]⟩],51,⟨#[117]⟩,⟨#[115]⟩,131072,true⟩,
 ⟨131072,(List.range k).map fun i=>⟨1,Lb near,Int.ofNat (i+1),[],cond near 0 1,0,0,[]⟩,Int.ofNat (228 * k),Int.ofNat k,0,0,false,0,0⟩,0,
 ⟨(List.range k).map fun i=>⟨Int.ofNat (i+1),Lb near,cond near 3 1,0⟩,0,[],[],-1,[]⟩,[],
 ⟨cond (k==0) 0 1,cond (k==0) ⟨#[]⟩ ⟨#[104,46,120]⟩,⟨false,⟨#[]⟩,⟨#[]⟩⟩,[],false,[],⟨#[]⟩,false⟩,⟨0,[],false,0,0,0,false⟩,false,⟨false,0,0⟩,false⟩
def EX (near:Bool):Nat→ab×Int→Option (ab×Int)
 | 0,s=>some s
 | n+1,s=>(Jc near (Is near) s).bind fun r=>r.elim (EX near n) fun _=>none
theorem JY (near:Bool):EX near 10 (yV near 0,0)=some (yV near 10,10):=by cases near <;> kernel_rfl
theorem Jp (near:Bool):EX near 10 (yV near 10,10)=some (yV near 20,20):=by cases near <;> kernel_rfl
theorem Ja (near:Bool):EX near 10 (yV near 20,20)=some (yV near 30,30):=by cases near <;> kernel_rfl
theorem Jw (near:Bool):EX near 10 (yV near 30,30)=some (yV near 40,40):=by cases near <;> kernel_rfl
theorem Js (near:Bool):EX near 10 (yV near 40,40)=some (yV near 50,50):=by cases near <;> kernel_rfl
theorem IP (near:Bool):EX near 10 (yV near 50,50)=some (yV near 60,60):=by cases near <;> kernel_rfl
theorem Jl (near:Bool):EX near 1 (yV near 60,60)=some (yV near 60,61):=by cases near <;> kernel_rfl
theorem Fb (near:Bool):((eO true 50 0).bind fun v1=>fI 1 ({ v1 with LY:=131072 }))=some (some (yV near 0),true):=by cases near <;> kernel_rfl
theorem Hf (near:Bool):((ef (yV near 60)).bind fun v=>some (((v.1.LR.length:Int)==60)))=some true:=by cases near <;> kernel_rfl
theorem Eh:fE=some true:=by kernel_rfl
theorem jT (near:Bool) (m:Nat) {o}:∀ (n:Nat) {s s'},EX near n s=some s'→bw (Jc near (Is near)) m s'=o→bw (Jc near (Is near)) (n+m) s=o
 | 0,s,s',h,h2=>by cases h; rw [Nat.zero_add]; exact h2
 | n+1,s,s',h,h2=>by
  simp only [EX] at h
  rw [Nat.add_right_comm]
  match hr:Jc near (Is near) s with
  | none=>rw [hr] at h; cases h
  | some (.inr x)=>rw [hr] at h; cases h
  | some (.inl x) =>
   rw [hr] at h
   simp only [bw,hr]
   exact jT near m n h h2
theorem Fm (near:Bool):bw (Jc near (Is near)) eG (yV near 0,0)=some (.inl (yV near 60)) :=
 jT near (eG-10) 10 (JY near) (jT near (eG-20) 10 (Jp near) (jT near (eG-30) 10 (Ja near) (jT near (eG-40) 10 (Jw near) (jT near (eG-50) 10 (Js near) (jT near (eG-60) 10 (IP near) (jT near (eG-61) 1 (Jl near) rfl))))))
theorem xa (near:Bool):ek near=some true:=by unfold ek;refine KW (Fb near) (Lu rfl (JC rfl (Hu (s:=Is near) (by cases near <;> rfl) (Hu (s:=yV near 60) (Fm near) (Hu (s:=true) (KM (Hf near) ?_) rfl)))));rw [Eh]; rfl
end Go.Abs.Sh
