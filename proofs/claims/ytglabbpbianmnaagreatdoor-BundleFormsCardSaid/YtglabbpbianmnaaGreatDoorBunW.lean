import Derived.Test.YtglabbpbianmnaaGreatDoorBunV
import Derived.KernelRfl
namespace Go.Abs.Sh
set_option linter.unusedVariables false
set_option linter.unusedSimpArgs false
set_option maxRecDepth 100000
def rmS (m:T_Mail):((Int))→Option ((Int)⊕((Unit)⊕Bool)):=(fun (s28:Int) =>
    cond ((decide (s28<(m.To.length:Int))))
     (bindS (S:=Bool) (A:=((Int)⊕((Unit)⊕Bool)))
      ((ixO s28 m.To.length).bind fun v10 =>
      (getO m.To v10).bind fun v11 =>
      (wherryref11_Path v11).bind fun v12 =>
      cond ((!v12))
       (some (.inl true))
       ((ixO s28 m.To.length).bind fun v13 =>
       (getO m.To v13).bind fun v14 =>
       some (.inl v14.Null)))
      (fun (s42:Bool) =>
       cond (s42)
        (some (.inr (.inr (false))))
        ((some (IntKind.i64.wrap (s28+1))).bind fun v20 =>
        some (.inl v20))) some)
     (some (.inr (.inl ()))))
def rbS (b:T_Bundle):((Int))→Option ((Int)⊕((Unit)⊕Bool)):=(fun (s26:Int) =>
    cond ((decide (s26<(b.Mails.length:Int))))
     ((ixO s26 b.Mails.length).bind fun v10 =>
     (getO b.Mails v10).bind fun v11 =>
     bindS (S:=Bool) (A:=((Int)⊕((Unit)⊕Bool)))
      ((wherryref11_Mail ((T_Mail.mk (T_Path.mk v11.From.Null v11.From.Local v11.From.Domain) v11.To v11.Body v11.Quiet v11.Helo v11.At))).bind fun v12 =>
      cond ((!v12))
       (some (.inl true))
       (cond (v11.Quiet)
        (some (.inl true))
        (cond ((!(v11.Helo.toList==(⟨#[]⟩:ByteArray).toList)))
         (some (.inl true))
         (some (.inl (v11.At != 0))))))
      (fun (s40:Bool) =>
       cond (s40)
        (some (.inr (.inr (false))))
        ((some (IntKind.i64.wrap (s26+1))).bind fun v18 =>
        some (.inl v18))) some)
     (some (.inr (.inl ()))))
def rsS (b:List Int):(((List Int)×Int))→Option (((List Int)×Int)⊕(((List Int))⊕(List Int))):=(fun ((s43,s44):(List Int)×Int) =>
 cond ((decide (s44<(b.length:Int))))
  (bindS (S:=(List Int)) (A:=(((List Int)×Int)⊕(((List Int))⊕(List Int))))
   (bindS (S:=Bool) (A:=(((List Int))⊕(((List Int)×Int)⊕(((List Int))⊕(List Int)))))
    ((ixO s44 b.length).bind fun v2 =>
    (getO b v2).bind fun v3 =>
    cond ((v3==46))
     (cond ((s44==0))
      (some (.inl true))
      ((some (IntKind.i64.wrap (s44-1))).bind fun v4 =>
      (ixO v4 b.length).bind fun v5 =>
      (getO b v5).bind fun v6 =>
      some (.inl (v6==10))))
     (some (.inl false)))
    (fun (s77:Bool) =>
     cond (s77)
      ((appO 1 s43 [46]).bind fun v12 =>
      some (.inl v12))
      (some (.inl s43))) some)
   (fun (s73:(List Int)) =>
    (ixO s44 b.length).bind fun v22 =>
    (getO b v22).bind fun v23 =>
    (appO 1 s73 [v23]).bind fun v24 =>
    (some (IntKind.i64.wrap (s44+1))).bind fun v25 =>
    some (.inl (v24,v25))) some)
  (some (.inr (.inl s43))))
def rcS (b:T_Bundle):(((List Int)×Int))→Option (((List Int)×Int)⊕(((List Int))⊕(List Int))):=(fun ((s52,s53):(List Int)×Int) =>
 cond ((decide (s53<(b.Mails.length:Int))))
  ((ixO s53 b.Mails.length).bind fun v2 =>
  (getO b.Mails v2).bind fun v3 =>
  (wherryref11_Text (T_Path.mk v3.From.Null v3.From.Local v3.From.Domain)).bind fun v4 =>
  (catO (⟨#[77,65,73,76,32,70,82,79,77,58]⟩:ByteArray) v4).bind fun v5 =>
  (catO v5 (⟨#[13,10]⟩:ByteArray)).bind fun v6 =>
  (appO 1 s52 (sbytes v6)).bind fun v7 =>
  bindS (S:=((List Int))) (A:=(((List Int)×Int)⊕(((List Int))⊕(List Int))))
   (loopF (S:=((List Int)×Int)) (O:=((List Int))⊕(((List Int)×Int)⊕(((List Int))⊕(List Int)))) (fun ((s82,s83):(List Int)×Int) =>
    cond ((decide (s83<(v3.To.length:Int))))
     ((ixO s83 v3.To.length).bind fun v9 =>
     (getO v3.To v9).bind fun v10 =>
     (wherryref11_Text v10).bind fun v11 =>
     (catO (⟨#[82,67,80,84,32,84,79,58]⟩:ByteArray) v11).bind fun v12 =>
     (catO v12 (⟨#[13,10]⟩:ByteArray)).bind fun v13 =>
     (appO 1 s82 (sbytes v13)).bind fun v14 =>
     (some (IntKind.i64.wrap (s83+1))).bind fun v15 =>
     some (.inl (v14,v15)))
     (some (.inr (.inl s82))))
    BIG (v7,0))
   (fun (s85:(List Int)) =>
    (appO 1 s85 (sbytes (⟨#[68,65,84,65,13,10]⟩:ByteArray))).bind fun v30 =>
    (wherryref11_Stuff v3.Body).bind fun v31 =>
    (appO 1 v30 v31).bind fun v32 =>
    (some (IntKind.i64.wrap (s53+1))).bind fun v33 =>
    some (.inl (v32,v33))) some)
  (some (.inr (.inl s52))))
def rtS (v3:T_Mail):(((List Int)×Int))→Option (((List Int)×Int)⊕(((List Int))⊕(((List Int)×Int)⊕(((List Int))⊕(List Int))))):=(fun ((s82,s83):(List Int)×Int) =>
    cond ((decide (s83<(v3.To.length:Int))))
     ((ixO s83 v3.To.length).bind fun v9 =>
     (getO v3.To v9).bind fun v10 =>
     (wherryref11_Text v10).bind fun v11 =>
     (catO (⟨#[82,67,80,84,32,84,79,58]⟩:ByteArray) v11).bind fun v12 =>
     (catO v12 (⟨#[13,10]⟩:ByteArray)).bind fun v13 =>
     (appO 1 s82 (sbytes v13)).bind fun v14 =>
     (some (IntKind.i64.wrap (s83+1))).bind fun v15 =>
     some (.inl (v14,v15)))
     (some (.inr (.inl s82))))
def ryS (b:List Int) (divisor:Int):((Int×Int))→Option ((Int×Int)⊕((Int)⊕Int)):=(fun ((s97,s98):Int×Int) =>
 cond ((decide (s98<(b.length:Int))))
  (bindS (S:=(Int)) (A:=((Int×Int)⊕((Int)⊕Int)))
   (loopF (S:=(Int×Int)) (O:=(Int)⊕((Int×Int)⊕((Int)⊕Int))) (fun ((s163,s164):Int×Int) =>
    cond ((decide (s164<8)))
     (bindS (S:=Int) (A:=((Int×Int)⊕((Int)⊕((Int×Int)⊕((Int)⊕Int)))))
      ((some (bits .and .i64 s163 1)).bind fun v6 =>
      (shrO .i64 s163 1).bind fun v7 =>
      (ixO s98 b.length).bind fun v8 =>
      (getO b v8).bind fun v9 =>
      (some (IntKind.u64.wrap s164)).bind fun v10 =>
      (shrO .u8 v9 v10).bind fun v11 =>
      (some (IntKind.i64.wrap v11)).bind fun v12 =>
      (some (bits .and .i64 v12 1)).bind fun v13 =>
      cond ((v6 != v13))
       ((some (bits .xor .i64 v7 divisor)).bind fun v15 =>
       some (.inl v15))
       (some (.inl v7)))
      (fun (s181:Int) =>
       (some (IntKind.i64.wrap (s164+1))).bind fun v21 =>
       some (.inl (s181,v21))) some)
     (some (.inr (.inl s163))))
    BIG (s97,0))
   (fun (s172:Int) =>
    (some (IntKind.i64.wrap (s98+1))).bind fun v54 =>
    some (.inl (s172,v54))) some)
  (some (.inr (.inl s97))))
def rzS (b:List Int) (divisor s98:Int):((Int×Int))→Option ((Int×Int)⊕((Int)⊕((Int×Int)⊕((Int)⊕Int)))):=(fun ((s163,s164):Int×Int) =>
    cond ((decide (s164<8)))
     (bindS (S:=Int) (A:=((Int×Int)⊕((Int)⊕((Int×Int)⊕((Int)⊕Int)))))
      ((some (bits .and .i64 s163 1)).bind fun v6 =>
      (shrO .i64 s163 1).bind fun v7 =>
      (ixO s98 b.length).bind fun v8 =>
      (getO b v8).bind fun v9 =>
      (some (IntKind.u64.wrap s164)).bind fun v10 =>
      (shrO .u8 v9 v10).bind fun v11 =>
      (some (IntKind.i64.wrap v11)).bind fun v12 =>
      (some (bits .and .i64 v12 1)).bind fun v13 =>
      cond ((v6 != v13))
       ((some (bits .xor .i64 v7 divisor)).bind fun v15 =>
       some (.inl v15))
       (some (.inl v7)))
      (fun (s181:Int) =>
       (some (IntKind.i64.wrap (s164+1))).bind fun v21 =>
       some (.inl (s181,v21))) some)
     (some (.inr (.inl s163))))
/-! The page's bundle. -/
theorem rin_eq (n lo hi:Int):wherryref11_in n lo hi=some (decide (lo≤n)&&decide (n≤hi)):=by
 unfold wherryref11_in
 by_cases h:lo≤n
 ·exact bndL (s:=decide (n≤hi)) (cnd_t (decide_eq_true h) rfl) (by rw [decide_eq_true h,Bool.true_and])
 ·exact bndL (s:=false) (cnd_f (decide_eq_false h) rfl) (by rw [decide_eq_false h,Bool.false_and])
theorem rmail_any {m:T_Mail} (h:LM m) (hb:byt m.Body):∃ c,wherryref11_Mail m=some c∧(c=true→maiB m=true):=by
 have hl:=(lm_small h).2.2.1
 have hT:=h.1
 unfold wherryref11_Mail
 have e1:=rpath_eq (T_Path.mk m.From.Null m.From.Local m.From.Domain)
 rw [show T_Path.mk m.From.Null m.From.Local m.From.Domain=m.From from rfl] at e1 ⊢
 by_cases hF:patB m.From=true
 case neg=>exact ⟨false,bndL (s:=true) (bnd e1 (cnd_t (by rw [Bool.eq_false_iff.2 hF]; rfl) rfl)) (cnd_t rfl rfl),fun h=>by cases h⟩
 have nF:(!patB m.From)=false:=by rw [hF]; rfl
 by_cases hn:1≤m.To.length∧m.To.length≤8
 case neg =>
  refine ⟨false,bndL (s:=true) (bnd e1 (cnd_f nF (bnd (rin_eq _ _ _) (cnd_t ?_ rfl)))) (cnd_t rfl rfl),fun h=>by cases h⟩
  rw [Bool.not_eq_true']
  rw [Bool.and_eq_false_iff]
  by_cases h1:1≤m.To.length
  ·exact .inr (decide_eq_false (by omega))
  ·exact .inl (decide_eq_false (by omega))
 have nN:(!(decide ((1:Int)≤(m.To.length:Int))&&decide ((m.To.length:Int)≤8)))=false:=by rw [decide_eq_true (by omega),decide_eq_true (by omega)]; rfl
 rcases body_any m.Body hb (by omega) with hbd | ⟨hbd,ls,a,b,c⟩
 ·exact ⟨false,bndL (s:=true) (bnd e1 (cnd_f nF (bnd (rin_eq _ _ _) (cnd_f nN (bnd hbd (cnd_t rfl rfl)))))) (cnd_t rfl rfl),fun h=>by cases h⟩
 have hd:dots_Check m.Body=some 0:=by rw [c]; exact check_ok a b (by rw [← jn_len,← c]; omega)
 by_cases h4:m.Body.length≤4096
 case neg=>exact ⟨false,bndL (s:=true) (bnd e1 (cnd_f nF (bnd (rin_eq _ _ _) (cnd_f nN (bnd hbd (cnd_f rfl (inl_of (decide_eq_true (by omega))))))))) (cnd_t rfl rfl),fun h=>by cases h⟩
 have hlp:=loop_all (R:=Bool) (f:=rmS m) (fun i=>rcB (m.To.getD i noP)) m.To.length false (fuel:=BIG) (by simp only [BIG]; omega) (fun i hi hp=>by
  have hg:getO m.To i=some (m.To.getD i noP):=getOD noP hi
  have hp:rcB (m.To.getD i noP)=true:=hp
  unfold rcB at hp
  rw [Bool.and_eq_true] at hp
  exact cnd_t (decide_eq_true (by omega)) (bndL (s:=false) (bnd (ixO_of hi) (bnd hg (bnd (rpath_eq _) (cnd_f (by rw [hp.1]; rfl) (bnd (ixO_of hi) (bnd hg (inl_of (by simpa using hp.2)))))))) (cnd_f rfl (bnd (congrArg some (wrap_succ (n:=i) (by omega))) rfl)))) (fun i hi hp=>by
  have hg:getO m.To i=some (m.To.getD i noP):=getOD noP hi
  have hp:rcB (m.To.getD i noP)=false:=hp
  unfold rcB at hp
  by_cases h1:patB (m.To.getD i noP)=true
  ·rw [h1,Bool.true_and] at hp
   exact cnd_t (decide_eq_true (by omega)) (bndL (s:=true) (bnd (ixO_of hi) (bnd hg (bnd (rpath_eq _) (cnd_f (by rw [h1]; rfl) (bnd (ixO_of hi) (bnd hg (inl_of (by simpa using hp)))))))) (cnd_t rfl rfl))
  ·exact cnd_t (decide_eq_true (by omega)) (bndL (s:=true) (bnd (ixO_of hi) (bnd hg (bnd (rpath_eq _) (cnd_t (by rw [Bool.eq_false_iff.2 h1]; rfl) rfl)))) (cnd_t rfl rfl))) (cnd_f (decide_eq_false (by omega)) rfl)
 have pre:(wherryref11_Path m.From).bind (fun v1=>cond ((!v1)) (some (.inl true)) ((wherryref11_in (m.To.length:Int) 1 8).bind fun v2=>cond ((!v2)) (some (.inl true)) ((wherryref11_Body m.Body).bind fun v3=>cond ((!v3)) (some (.inl true)) (some (.inl ((decide (4096<(m.Body.length:Int)))))))))=(some (.inl false):Option (Bool⊕Bool)):=bnd e1 (cnd_f nF (bnd (rin_eq _ _ _) (cnd_f nN (bnd hbd (cnd_f rfl (inl_of (decide_eq_false (by omega))))))))
 by_cases ha:m.To.all rcB=true
 ·rw [if_pos ((all_getD noP rcB m.To).2 ha)] at hlp
  refine ⟨true,bndL (s:=false) pre (cnd_f rfl (bndL hlp rfl)),fun _ => ?_⟩
  unfold maiB envB bodB
  rw [hF,ha,hd,decide_eq_true hn,decide_eq_true h4]
  rfl
 ·rw [if_neg fun h=>ha ((all_getD noP rcB m.To).1 h)] at hlp
  exact ⟨false,bndL (s:=false) pre (cnd_f rfl (bndR hlp rfl)),fun h=>by cases h⟩
def rmB (m:T_Mail):Bool:=(wherryref11_Mail m).getD false&&(!m.Quiet&&(decide (m.Helo=e0)&&decide (m.At=0)))
theorem rbun_any {b:T_Bundle} (hm:∀ m∈b.Mails,LM m∧byt m.Body) (hl:b.Mails.length≤20):∃ c,wherryref11_Bundle b=some c∧(c=true→bunB b=true):=by
 unfold wherryref11_Bundle
 by_cases ho:0≤b.Origin∧b.Origin≤1
 case neg =>
  refine ⟨false,bndL (s:=true) (bnd (rin_eq _ _ _) (cnd_t ?_ rfl)) (cnd_t rfl rfl),fun h=>by cases h⟩
  rw [Bool.not_eq_true',Bool.and_eq_false_iff]
  by_cases h1:0≤b.Origin
  ·exact .inr (decide_eq_false (by omega))
  ·exact .inl (decide_eq_false (by omega))
 have no:(!(decide ((0:Int)≤b.Origin)&&decide (b.Origin≤1)))=false:=by rw [decide_eq_true ho.1,decide_eq_true ho.2]; rfl
 by_cases hn:1≤b.Number∧b.Number≤65535
 case neg =>
  refine ⟨false,bndL (s:=true) (bnd (rin_eq _ _ _) (cnd_f no (bnd (rin_eq _ _ _) (cnd_t ?_ rfl)))) (cnd_t rfl rfl),fun h=>by cases h⟩
  rw [Bool.not_eq_true',Bool.and_eq_false_iff]
  by_cases h1:1≤b.Number
  ·exact .inr (decide_eq_false (by omega))
  ·exact .inl (decide_eq_false (by omega))
 have nn:(!(decide ((1:Int)≤b.Number)&&decide (b.Number≤65535)))=false:=by rw [decide_eq_true hn.1,decide_eq_true hn.2]; rfl
 by_cases hk:1≤b.Mails.length∧b.Mails.length≤4
 case neg =>
  refine ⟨false,bndL (s:=true) (bnd (rin_eq _ _ _) (cnd_f no (bnd (rin_eq _ _ _) (cnd_f nn (bnd (rin_eq _ _ _) (inl_of ?_)))))) (cnd_t rfl rfl),fun h=>by cases h⟩
  rw [Bool.not_eq_true',Bool.and_eq_false_iff]
  by_cases h1:1≤b.Mails.length
  ·exact .inr (decide_eq_false (by omega))
  ·exact .inl (decide_eq_false (by omega))
 have nk:(!(decide ((1:Int)≤(b.Mails.length:Int))&&decide ((b.Mails.length:Int)≤4)))=false:=by rw [decide_eq_true (by omega),decide_eq_true (by omega)]; rfl
 have hlp:=loop_all (R:=Bool) (f:=rbS b) (fun i=>rmB (b.Mails.getD i zM17)) b.Mails.length false (fuel:=BIG) (by simp only [BIG]; omega) (fun i hi hp=>by
  have hg:getO b.Mails i=some (b.Mails.getD i zM17):=getOD zM17 hi
  obtain ⟨lm,hb⟩:=hm _ (memD zM17 hi)
  obtain ⟨c,hc,_⟩:=rmail_any lm hb
  generalize b.Mails.getD i zM17=m at *
  unfold rmB at hp
  rw [hc,Option.getD_some,Bool.and_eq_true,Bool.and_eq_true,Bool.and_eq_true] at hp
  obtain ⟨h1,h2,h3,h4⟩:=hp
  subst h1
  have h2:m.Quiet=false:=by simpa using h2
  have h3:=of_decide_eq_true h3
  have h4:=of_decide_eq_true h4
  refine cnd_t (decide_eq_true (by omega)) (bnd (ixO_of hi) (bnd hg (bndL (s:=false) (bnd (x:=true) hc (cnd_f rfl (cnd_f h2 (cnd_f ?_ (inl_of ?_))))) (cnd_f rfl (bnd (congrArg some (wrap_succ (n:=i) (by omega))) rfl)))))
  ·rw [toList_beq,h3,show (⟨#[]⟩:ByteArray)=e0 from rfl,decide_eq_true rfl]; rfl
  ·rw [h4]; rfl) (fun i hi hp=>by
  have hg:getO b.Mails i=some (b.Mails.getD i zM17):=getOD zM17 hi
  obtain ⟨lm,hb⟩:=hm _ (memD zM17 hi)
  obtain ⟨c,hc,_⟩:=rmail_any lm hb
  generalize b.Mails.getD i zM17=m at *
  unfold rmB at hp
  rw [hc,Option.getD_some] at hp
  refine cnd_t (decide_eq_true (by omega)) (bnd (ixO_of hi) (bnd hg (bndL (s:=true) (bnd (x:=c) hc ?_) (cnd_t rfl rfl))))
  cases c
  ·exact cnd_t rfl rfl
  refine cnd_f rfl ?_
  rw [Bool.true_and] at hp
  cases hq:m.Quiet
  ·rw [hq,Bool.not_false,Bool.true_and] at hp
   refine cnd_f rfl ?_
   by_cases hh:m.Helo=e0
   ·rw [decide_eq_true hh,Bool.true_and] at hp
    have:=of_decide_eq_false hp
    exact cnd_f (by rw [toList_beq,hh,show (⟨#[]⟩:ByteArray)=e0 from rfl,decide_eq_true rfl]; rfl) (inl_of (bne_iff_ne.2 this))
   ·refine cnd_t ?_ rfl
    rw [toList_beq,show (⟨#[]⟩:ByteArray)=e0 from rfl,decide_eq_false hh]; rfl
  ·exact cnd_t rfl rfl) (cnd_f (decide_eq_false (by omega)) rfl)
 have pre:(wherryref11_in b.Origin 0 1).bind (fun v1=>cond ((!v1)) (some (.inl true)) ((wherryref11_in b.Number 1 65535).bind fun v2=>cond ((!v2)) (some (.inl true)) ((wherryref11_in (b.Mails.length:Int) 1 4).bind fun v3=>some (.inl (!v3)))))=(some (.inl false):Option (Bool⊕Bool)):=bnd (rin_eq _ _ _) (cnd_f no (bnd (rin_eq _ _ _) (cnd_f nn (bnd (rin_eq _ _ _) (inl_of nk)))))
 by_cases ha:b.Mails.all rmB=true
 ·rw [if_pos ((all_getD zM17 rmB b.Mails).2 ha)] at hlp
  refine ⟨true,bndL (s:=false) pre (cnd_f rfl (bndL hlp rfl)),fun _ => ?_⟩
  have hp:b.Mails.all plnB=true:=List.all_eq_true.2 fun m hmm=>by
   have h1:=List.all_eq_true.1 ha m hmm
   obtain ⟨lm,hb⟩:=hm m hmm
   obtain ⟨c,hc,hc2⟩:=rmail_any lm hb
   unfold rmB at h1
   rw [hc,Option.getD_some,Bool.and_eq_true] at h1
   unfold plnB
   rw [hc2 h1.1,h1.2]
   rfl
  unfold bunB
  rw [hp,decide_eq_true hk,decide_eq_true (show (b.Origin=0∨b.Origin=1)∧1≤b.Number∧b.Number≤65535 by omega)]
  rfl
 ·rw [if_neg fun h=>ha ((all_getD zM17 rmB b.Mails).1 h)] at hlp
  exact ⟨false,bndL (s:=false) pre (cnd_f rfl (bndR hlp rfl)),fun h=>by cases h⟩
/-! What is put on the line. -/
def rst:Bool→List Int→List Int
 | _,[]=>[]
 | f,c::t=>(if c=46∧f=true then [46,c] else [c])++rst (decide (c=10)) t
theorem rst_line:∀ (l r:List Int),cln l→rst false (l++13::10::r)=l++13::10::rst true r
 | [],r,h=>by simp [rst]
 | c::l,r,h=>by
  have hc:=h c (by simp)
  have ih:=rst_line l r (fun x hx=>h x (by simp [hx]))
  simp [rst,hc.2,ih]
theorem rst_jn:∀ (ls:List (List Int)),(∀ l∈ls,cln l)→rst true (jn ls)=jn (ls.map stf)
 | [],h=>by simp [rst,jn]
 | l::ls,h=>by
  have ih:=rst_jn ls (fun x hx=>h x (by simp [hx]))
  have hl:=h l (by simp)
  rw [List.map_cons,jn,jn,← ih]
  cases l with
  | nil=>simp [rst,stf]
  | cons c t =>
   have hc:=hl c (by simp)
   have ht:=rst_line t (jn ls) (fun x hx=>hl x (by simp [hx]))
   by_cases h46:c=46
   ·simp [rst,stf,h46,ht]
   ·simp [rst,stf,h46,hc.2,ht]
def flg (b:List Int) (i:Nat):Bool:=decide (i=0)||decide (b.getD (i-1) 0=10)
theorem rs_loop {b:List Int} (hl:b.length≤100000):∀ (k i fuel:Nat) (s:List Int),i+k=b.length→k<fuel→s.length+2 * k≤1000000 →
  loopF (rsS b) fuel (s,(i:Int))=some (.inl (s++rst (flg b i) (b.drop i)))
 | 0,i,fuel,s,hk,hf,hs=>by
  obtain ⟨fu,rfl⟩:∃ fu,fuel=fu+1:=⟨fuel-1,by omega⟩
  rw [List.drop_eq_nil_of_le (by omega),rst,List.append_nil]
  exact loop_exit (cnd_f (decide_eq_false (by omega)) rfl)
 | k+1,i,fuel,s,hk,hf,hs=>by
  obtain ⟨fu,rfl⟩:∃ fu,fuel=fu+1:=⟨fuel-1,by omega⟩
  have hi:i<b.length:=by omega
  have hg:getO b i=some b[i]:=by simp [getO,hi]
  have hix:=ixO_of hi
  have hfl:flg b (i+1)=decide (b[i]=10):=by
   unfold flg
   rw [decide_eq_false (by omega),Bool.false_or,Nat.add_sub_cancel,List.getD_eq_getElem?_getD,List.getElem?_eq_getElem hi]
   rfl
  have hd:b.drop i=b[i]::b.drop (i+1):=List.drop_eq_getElem_cons hi
  rw [hd,rst,← hfl]
  have tail:∀ s':List Int,s'.length+1+2 * k≤1000000→(∀ r,(ixO (i:Int) b.length).bind (fun v22=>(getO b v22).bind fun v23=>(appO 1 s' [v23]).bind fun v24=>(some (IntKind.i64.wrap ((i:Int)+1))).bind fun v25=>some (Sum.inl (v24,v25)))=some (r:(List Int×Int)⊕(List Int⊕List Int))↔r = .inl (s'++[b[i]],((i+1:Nat):Int))):=fun s' h' r=>by
   have h:=bnd (f:=fun v22=>(getO b v22).bind fun v23=>(appO 1 s' [v23]).bind fun v24=>(some (IntKind.i64.wrap ((i:Int)+1))).bind fun v25=>some (Sum.inl (v24,v25))) hix (bnd hg (bnd (app_of (l:=s') (m:=[b[i]]) (by simp only [List.length_cons,List.length_nil]; omega) (by simp only [List.length_cons,List.length_nil]; omega)) (bnd (congrArg some (wrap_succ (n:=i) (by omega))) (rfl:(some (Sum.inl (s'++[b[i]],((i+1:Nat):Int))):Option ((List Int×Int)⊕(List Int⊕List Int)))=_))))
   rw [h]
   exact ⟨fun e=>(Option.some.inj e).symm,fun e=>by rw [e]⟩
  by_cases h46:b[i]=46
  ·by_cases hff:flg b i=true
   ·rw [if_pos ⟨h46,hff⟩]
    have ih:=rs_loop hl k (i+1) fu (s++[46]++[b[i]]) (by omega) (by omega) (by simp only [List.length_append,List.length_cons,List.length_nil]; omega)
    rw [show s++([46,b[i]]++rst (flg b (i+1)) (b.drop (i+1)))=s++[46]++[b[i]]++rst (flg b (i+1)) (b.drop (i+1)) by simp]
    refine (loop_next (s':=(s++[46]++[b[i]],((i+1:Nat):Int))) ?_).trans ih
    have hin:(cond ((i:Int)==0) (some (.inl true)) ((some (IntKind.i64.wrap ((i:Int)-1))).bind fun v4=>(ixO v4 b.length).bind fun v5=>(getO b v5).bind fun v6=>some (.inl (v6==10))):Option (Bool⊕(List Int⊕((List Int×Int)⊕(List Int⊕List Int)))))=some (.inl true):=by
     by_cases h0:i=0
     ·exact cnd_t (beq_iff_eq.2 (by omega)) rfl
     ·have h10:b.getD (i-1) 0=10:=by
       unfold flg at hff
       rw [decide_eq_false h0,Bool.false_or] at hff
       exact of_decide_eq_true hff
      have hw:IntKind.i64.wrap ((i:Int)-1)=((i-1:Nat):Int):=by rw [wrap_i64 (by omega) (by omega)]; omega
      exact cnd_f (beq_eq_false_iff_ne.2 (by omega)) (bnd (congrArg some hw) (bnd (ixO_of (show i-1<b.length by omega)) (bnd (getOD 0 (show i-1<b.length by omega)) (by rw [h10]; rfl))))
    exact cnd_t (decide_eq_true (by omega)) (bndL (s:=s++[46]) (bndL (s:=true) (bnd hix (bnd hg (cnd_t (beq_iff_eq.2 h46) hin))) (cnd_t rfl (bnd (app_of (m:=[46]) (by simp only [List.length_cons,List.length_nil]; omega) (by simp only [List.length_cons,List.length_nil]; omega)) rfl))) ((tail (s++[46]) (by simp only [List.length_append,List.length_cons,List.length_nil]; omega) _).2 rfl))
   ·rw [if_neg (fun h=>hff h.2)]
    have ih:=rs_loop hl k (i+1) fu (s++[b[i]]) (by omega) (by omega) (by simp only [List.length_append,List.length_cons,List.length_nil]; omega)
    rw [← List.append_assoc]
    refine (loop_next (s':=(s++[b[i]],((i+1:Nat):Int))) ?_).trans ih
    have hff:=Bool.eq_false_iff.2 hff
    unfold flg at hff
    rw [Bool.or_eq_false_iff] at hff
    have h0:=of_decide_eq_false hff.1
    have h10:=of_decide_eq_false hff.2
    have hw:IntKind.i64.wrap ((i:Int)-1)=((i-1:Nat):Int):=by rw [wrap_i64 (by omega) (by omega)]; omega
    exact cnd_t (decide_eq_true (by omega)) (bndL (s:=s) (bndL (s:=false) (bnd hix (bnd hg (cnd_t (beq_iff_eq.2 h46) (cnd_f (beq_eq_false_iff_ne.2 (by omega)) (bnd (congrArg some hw) (bnd (ixO_of (show i-1<b.length by omega)) (bnd (getOD 0 (show i-1<b.length by omega)) (by rw [beq_eq_false_iff_ne.2 h10])))))))) (cnd_f rfl rfl)) ((tail s (by omega) _).2 rfl))
  ·rw [if_neg (fun h=>h46 h.1)]
   have ih:=rs_loop hl k (i+1) fu (s++[b[i]]) (by omega) (by omega) (by simp only [List.length_append,List.length_cons,List.length_nil]; omega)
   rw [← List.append_assoc]
   refine (loop_next (s':=(s++[b[i]],((i+1:Nat):Int))) ?_).trans ih
   exact cnd_t (decide_eq_true (by omega)) (bndL (s:=s) (bndL (s:=false) (bnd hix (bnd hg (cnd_f (beq_eq_false_iff_ne.2 h46) rfl))) (cnd_f rfl rfl)) ((tail s (by omega) _).2 rfl))
theorem rstuff_eq {m:T_Mail} (h:Vm m):wherryref11_Stuff m.Body=some (stfB m.Body):=by
 obtain ⟨ls,h1,h2,h3⟩:=h.bd
 have hl:=(lm_small h.lm).2.2.1
 have ht:tot ls≤20000:=by rw [← jn_len,← h3]; exact hl
 have hs:=stuff_ok h1 h2 (by omega:tot ls<1000000000)
 rw [← h3] at hs
 have e:stfB m.Body=jn (ls.map stf++[[46]]):=by unfold stfB; rw [hs]; rfl
 have hlp:=rs_loop (b:=m.Body) (by omega) m.Body.length 0 BIG [] (by omega) (by simp only [BIG]; omega) (by simp only [List.length_nil]; omega)
 have hr:rst (flg m.Body 0) (m.Body.drop 0)=jn (ls.map stf):=by
  rw [List.drop_zero,h3,← rst_jn ls h1]; rfl
 rw [hr,List.nil_append] at hlp
 have hlen:(jn (ls.map stf)).length≤40000:=by rw [jn_len]; have:=tot_stf ls; omega
 unfold wherryref11_Stuff
 refine bndL hlp (bnd (app_of (m:=[46,13,10]) (by simp only [List.length_cons,List.length_nil]; omega) (by simp only [List.length_cons,List.length_nil]; omega)) ?_)
 rw [e,jn_app]
 rfl
theorem rline {word:ByteArray} {w:List Int} {p:T_Path} (hw:sbytes word=w) (hwl:w.length≤100) (hs:Small p) (hpl:pW p≤20000) {R:Type} {f:ByteArray→Option R} {r:Option R} (hr:∀ v,sbytes v=lnL w p→f v=r) :
  (wherryref11_Text p).bind (fun v4=>(catO word v4).bind fun v5=>(catO v5 (⟨#[13,10]⟩:ByteArray)).bind f)=r:=by
 have hl:=txt_len hpl
 have hb:sbytes (bstr (txtL p))=txtL p:=sbytes_bstr (byt_txt p)
 have hwb:byt w:=by rw [← hw]; exact byt_sbytes word
 have h2:sbytes (bstr (w++txtL p))=w++txtL p:=sbytes_bstr (byt_app hwb (byt_txt p))
 have h3:byt [13,10]:=by intro x hx; simp only [List.mem_cons,List.not_mem_nil,or_false] at hx; omega
 have h4:sbytes (bstr ((w++txtL p)++[13,10]))=lnL w p:=by rw [sbytes_bstr (byt_app (byt_app hwb (byt_txt p)) h3)]; simp [lnL]
 exact bnd (rtext_eq p hs) (bnd (catL hw hb (by omega)) (bnd (catL h2 sbE (by simp only [List.length_append,List.length_cons,List.length_nil]; omega)) (hr _ h4)))
theorem rt_loop {m:T_Mail} (h:Vm m) (A:List Int) (hA:A.length≤100000000):loopF (rtS m) BIG (A,0)=some (.inl (A++rcs m.To)):=by
 obtain ⟨h1,h2⟩:=lm_pw h.lm
 have hsm:=(lm_small h.lm).2.1
 have d:=h.lm.1
 refine loop_from (fun i=>(A++rcs (m.To.take i),((i:Nat):Int))) m.To.length BIG (by simp [rcs]) (by simp only [BIG]; omega) (fun i hi => ?_) ?_
 ·have hm:=List.getElem_mem hi
  have hb:=rcs_len (l:=m.To.take i) fun p hp=>h2 p (List.mem_of_mem_take hp)
  have hbl:(m.To.take i).length≤40:=by simp only [List.length_take]; omega
  have hb':(m.To.take i).length * 20200≤40 * 20200:=Nat.mul_le_mul_right _ hbl
  have e:rcs (m.To.take (i+1))=rcs (m.To.take i)++lnL rcptW m.To[i]:=by
   rw [List.take_succ_eq_append_getElem hi,rcs_app]
   simp only [rcs,List.append_nil]
  have hll:=lnL_len (w:=rcptW) (by decide) (h2 _ hm)
  refine cnd_t (decide_eq_true (by omega)) (bnd (ixO_of hi) (bnd (by simp [getO,hi]:getO m.To i=some m.To[i]) (rline (w:=rcptW) rfl (by decide) (hsm _ hm) (h2 _ hm) fun v hv => ?_)))
  rw [hv]
  refine bnd (app_of (by simp only [List.length_append]; omega) (by simp only [List.length_append]; omega)) (bnd (congrArg some (wrap_succ (n:=i) (by omega))) ?_)
  rw [e,List.append_assoc]
 ·simp only [List.take_length]
  exact cnd_f (decide_eq_false (by omega)) rfl
theorem rcom_eq {b:T_Bundle} (h:∀ m∈b.Mails,Vm m) (hl:b.Mails.length≤20):wherryref11_commands b=some (comL b.Mails):=by
 unfold wherryref11_commands
 have hcl:=cmds_len h
 refine bndL (s:=cmds b.Mails) (loop_from (f:=rcS b) (fun i=>(cmds (b.Mails.take i),((i:Nat):Int))) b.Mails.length BIG (by simp [cmds]) (by simp only [BIG]; omega) (fun i hi => ?_) ?_) (bnd (app_of (by simp only [sbytes_len]; show _≤_; have:(⟨#[81,85,73,84,13,10]⟩:ByteArray).size=6:=rfl; omega) (by simp only [sbytes_len]; have:(⟨#[81,85,73,84,13,10]⟩:ByteArray).size=6:=rfl; omega)) rfl)
 ·have hm:=h _ (List.getElem_mem hi)
  obtain ⟨h1,h2⟩:=lm_pw hm.lm
  have hsm:=lm_small hm.lm
  have hb:=cmds_len (l:=b.Mails.take i) fun p hp=>h p (List.mem_of_mem_take hp)
  have hbl:(b.Mails.take i).length≤20:=by simp only [List.length_take]; omega
  have hb':(b.Mails.take i).length * 1000000≤20 * 1000000:=Nat.mul_le_mul_right _ hbl
  have a:=lnL_len (w:=mailW) (by decide) h1
  have hr:=rcs_len h2
  have hr':b.Mails[i].To.length * 20200≤40 * 20200:=Nat.mul_le_mul_right _ hm.lm.1
  obtain ⟨_,hs2⟩:=stfB_eq hm
  have hs1:=rstuff_eq hm
  have e:cmds (b.Mails.take (i+1))=cmds (b.Mails.take i)++cmd b.Mails[i]:=by
   rw [List.take_succ_eq_append_getElem hi,cmds_app]
   simp only [cmds,List.append_nil]
  refine cnd_t (decide_eq_true (by omega)) (bnd (ixO_of hi) (bnd (by simp [getO,hi]:getO b.Mails i=some b.Mails[i]) (rline (w:=mailW) (p:=b.Mails[i].From) rfl (by decide) hsm.1 h1 fun v hv => ?_)))
  rw [hv]
  refine bnd (app_of (by omega) (by omega)) (bndL (rt_loop hm _ (by simp only [List.length_append]; omega)) (bnd (app_of (m:=[68,65,84,65,13,10]) (by simp only [List.length_append,List.length_cons,List.length_nil]; omega) (by simp only [List.length_append,List.length_cons,List.length_nil]; omega)) (bnd hs1 (bnd (app_of (by simp only [List.length_append,List.length_cons,List.length_nil]; omega) (by simp only [List.length_append,List.length_cons,List.length_nil]; omega)) (bnd (congrArg some (wrap_succ (n:=i) (by omega))) ?_)))))
  rw [e]
  simp only [cmd,List.append_assoc]
 ·simp only [List.take_length]
  exact cnd_f (decide_eq_false (by omega)) rfl
end Go.Abs.Sh
