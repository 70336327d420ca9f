import Derived.Test.YtjdmcbkkacnmdaaGreatDoorSunB
namespace Go.Abs.Sh
set_option linter.unusedVariables false
set_option linter.unusedSimpArgs false
set_option maxRecDepth 100000
theorem fin_if {s : T_Spool} {r c : T_Rec} {ok : Bool} {x : T_Spool} (h1 : (ok = true ∧ c = r) ↔ okR s r = true) (h2 : okR s r = true → x = eff s r) :
  (some (if ok = true ∧ c = r then (x,(0 : Int)) else (noSp,5)) : Option (T_Spool × Int)) = some (if okR s r = true then (eff s r,0) else (noSp,5)) := by
 by_cases h : okR s r = true
 ·rw [if_pos (h1.2 h),if_pos h,h2 h]
 ·rw [if_neg (fun hh => h (h1.1 hh)),if_neg h]
theorem okR_if {s : T_Spool} {r c : T_Rec} {K ok : Bool} (ho : okR s r = (decide (c = r) && K)) (hK : K = ok) : (ok = true ∧ c = r) ↔ okR s r = true := by
 rw [ho,hK,Bool.and_eq_true,decide_eq_true_eq]
 exact ⟨fun h => ⟨h.2,h.1⟩,fun h => ⟨h.2,h.1⟩⟩
theorem okR1 {s : T_Spool} {r : T_Rec} (k : r.Kind = 1) : okR s r = (decide ((⟨r.Kind,r.Mail,r.Id,[],r.Origin,0,0,[]⟩ : T_Rec) = r) && (decide (s.Items.length < 60 ∧ r.Id = (s.Items.length : Int) + 1 ∧ (r.Origin = 0 ∨ r.Origin = 1)) && mailV r.Mail)) := by
 unfold okR cleanR
 rw [if_pos k,if_pos k]
theorem okR2 {s : T_Spool} {r : T_Rec} (k : r.Kind = 2) : okR s r = (decide ((⟨r.Kind,zM8,0,r.Ids,0,r.Number,0,[]⟩ : T_Rec) = r) && (decide (r.Number = s.Packs + 1) && idsB s r.Ids)) := by
 unfold okR cleanR
 rw [if_neg (show ¬ r.Kind = 1 by omega),if_neg (show ¬ r.Kind = 1 by omega),if_pos k,if_pos k]
theorem okR3 {s : T_Spool} {r : T_Rec} (k : r.Kind = 3) : okR s r = (decide ((⟨r.Kind,zM8,0,[],0,r.Number,0,[]⟩ : T_Rec) = r) && decide (1 ≤ r.Number ∧ r.Number ≤ s.Packs ∧ r.Number ∉ s.Sent)) := by
 unfold okR cleanR
 rw [if_neg (show ¬ r.Kind = 1 by omega),if_neg (show ¬ r.Kind = 1 by omega),if_neg (show ¬ r.Kind = 2 by omega),if_neg (show ¬ r.Kind = 2 by omega),if_pos k,if_pos k]
theorem okR4 {s : T_Spool} {r : T_Rec} (k : r.Kind = 4) : okR s r = (decide ((⟨r.Kind,zM8,r.Id,[],0,0,0,[]⟩ : T_Rec) = r) && wt s r.Id) := by
 unfold okR cleanR
 rw [if_neg (show ¬ r.Kind = 1 by omega),if_neg (show ¬ r.Kind = 1 by omega),if_neg (show ¬ r.Kind = 2 by omega),if_neg (show ¬ r.Kind = 2 by omega),if_neg (show ¬ r.Kind = 3 by omega),if_neg (show ¬ r.Kind = 3 by omega),if_pos k,if_pos k]
theorem okR5 {s : T_Spool} {r : T_Rec} (k : r.Kind = 5) : okR s r = (decide ((⟨r.Kind,zM8,0,[],0,r.Number,r.Offset,r.Data⟩ : T_Rec) = r) && (opn s r.Number && ckB s r)) := by
 unfold okR cleanR
 rw [if_neg (show ¬ r.Kind = 1 by omega),if_neg (show ¬ r.Kind = 1 by omega),if_neg (show ¬ r.Kind = 2 by omega),if_neg (show ¬ r.Kind = 2 by omega),if_neg (show ¬ r.Kind = 3 by omega),if_neg (show ¬ r.Kind = 3 by omega),if_neg (show ¬ r.Kind = 4 by omega),if_neg (show ¬ r.Kind = 4 by omega),if_pos k,if_pos k]
theorem okR6 {s : T_Spool} {r : T_Rec} (k : r.Kind = 6) : okR s r = (decide ((⟨r.Kind,zM8,0,[],0,r.Number,0,[]⟩ : T_Rec) = r) && opn s r.Number) := by
 unfold okR cleanR
 rw [if_neg (show ¬ r.Kind = 1 by omega),if_neg (show ¬ r.Kind = 1 by omega),if_neg (show ¬ r.Kind = 2 by omega),if_neg (show ¬ r.Kind = 2 by omega),if_neg (show ¬ r.Kind = 3 by omega),if_neg (show ¬ r.Kind = 3 by omega),if_neg (show ¬ r.Kind = 4 by omega),if_neg (show ¬ r.Kind = 4 by omega),if_neg (show ¬ r.Kind = 5 by omega),if_neg (show ¬ r.Kind = 5 by omega),if_pos k,if_pos k]
theorem okR7 {s : T_Spool} {r : T_Rec} (k1 : r.Kind ≠ 1) (k2 : r.Kind ≠ 2) (k3 : r.Kind ≠ 3) (k4 : r.Kind ≠ 4) (k5 : r.Kind ≠ 5) (k6 : r.Kind ≠ 6) : okR s r = (decide ((⟨r.Kind,zM8,0,[],0,0,0,[]⟩ : T_Rec) = r) && false) := by
 unfold okR cleanR
 rw [if_neg k1,if_neg k1,if_neg k2,if_neg k2,if_neg k3,if_neg k3,if_neg k4,if_neg k4,if_neg k5,if_neg k5,if_neg k6,if_neg k6]
theorem g3_f3 {n : Int} (h1 : 1 ≤ n) {l : List T_Item} (hs : ∀ x ∈ l,Stt x) : l.map (g3 n) = l.map (f3 n) := by
 refine List.map_congr_left fun x hx => ?_
 simp only [g3,f3]
 by_cases hp : x.Pack = n
 ·rcases (hs x hx).2 (by omega) with h | h
  ·rw [if_pos ⟨hp,h⟩,if_pos hp]
  ·rw [if_neg (fun hh => by have := hh.2; omega),if_pos hp]
   obtain ⟨a,b,c,d⟩ := x
   simp only at h
   rw [h]
 ·rw [if_neg (fun hh => hp hh.1),if_neg hp]
theorem z8 (k : Int) (id : Int) (ids : List Int) (og nu of_ : Int) (da : List Int) (h1 : ids.length ≤ 1000000) (h2 : da.length ≤ 1000000) (r : T_Rec) (ok : Bool) (x : T_Spool) :
  bindS (S := Bool) (A := (T_Spool × Int)) (cond (!ok) (some (.inl true)) ((wherrykeep_Rec ⟨k,zM8,id,ids,og,nu,of_,da⟩ r).bind fun v => some (.inl (!v)))) (fun s1334 => cond s1334 (some (noSp,5)) (some (x,0))) some = some (if ok = true ∧ (⟨k,zM8,id,ids,og,nu,of_,da⟩ : T_Rec) = r then (x,0) else (noSp,5)) :=
 fin18 _ r (by simp [zM8]) (by simp [zM8]) h1 h2 ok x
theorem radd_eq {n : Nat} {s : T_Spool} {r : T_Rec} (hs : Inv n s) (ht : ∀ x ∈ s.Items,Stt x) (hr : Rok r) : wherryref18_Add s r = some (if okR s r = true then (eff s r,0) else (noSp,5)) := by
 have hl := hs.len; have hn := hs.hn; have hp := hs.part; have hse := hs.sent; have hd := hs.done; have hpk := hs.packs
 have hd6 := hr.1.1; have hi6 := hr.1.2.1
 have hto := hr.1.2.2.1
 have hbo := mW_len hr.1.2.2
 unfold wherryref18_Add
 refine bnd (twinSp_eq hs) ?_
 by_cases k1 : r.Kind = 1
 ·obtain ⟨ok,hok⟩ : ∃ ok : Bool,ok = (decide (s.Items.length < 60 ∧ r.Id = (s.Items.length : Int) + 1 ∧ (r.Origin = 0 ∨ r.Origin = 1)) && mailV r.Mail) := ⟨_,rfl⟩
  have hw : IntKind.i64.wrap ((s.Items.length : Int) + 1) = (s.Items.length : Int) + 1 := wrap_i64 (by omega) (by omega)
  have hA : ∀ sg : Int,appO 144 s.Items [(T_Item.mk r.Id r.Mail sg 0)] = some (s.Items ++ [⟨r.Id,r.Mail,sg,0⟩]) := fun sg => app_of (by simp only [List.length_cons,List.length_nil]; omega) (by simp only [List.length_cons,List.length_nil]; omega)
  have hst : ∃ sg : Int,sg = (if r.Origin = 0 then 3 else 1) := ⟨_,rfl⟩
  obtain ⟨sg,hsg⟩ := hst
  refine bndL (bndL (cnd_t (beq_iff_eq.2 k1) (bndL (s := ok) ?_ (bndL (s := sg) ?_ (bnd (twin_mail hr.1.2.2) (bnd (hA sg) rfl))))) rfl) ?_
  ·rw [hok]
   refine bnd (congrArg some hw) ?_
   by_cases a : r.Id = (s.Items.length : Int) + 1
   ·refine cnd_t (beq_iff_eq.2 a) ?_
    by_cases b : s.Items.length < 60
    ·refine cnd_t (decide_eq_true (by omega)) (bnd (in18_eq _ _ _) ?_)
     by_cases c : r.Origin = 0 ∨ r.Origin = 1
     ·rw [decide_eq_true (⟨b,a,c⟩ : s.Items.length < 60 ∧ r.Id = (s.Items.length : Int) + 1 ∧ (r.Origin = 0 ∨ r.Origin = 1)),Bool.true_and]
      exact cnd_t (decide_eq_true (by omega)) (bnd (rmail_eq hr.1.2.2 hr.2) rfl)
     ·rw [decide_eq_false (fun h => c h.2.2 : ¬ (s.Items.length < 60 ∧ r.Id = (s.Items.length : Int) + 1 ∧ (r.Origin = 0 ∨ r.Origin = 1))),Bool.false_and]
      exact cnd_f (decide_eq_false (by omega)) rfl
    ·rw [decide_eq_false (fun h => b h.1 : ¬ (s.Items.length < 60 ∧ r.Id = (s.Items.length : Int) + 1 ∧ (r.Origin = 0 ∨ r.Origin = 1))),Bool.false_and]
     exact cnd_f (decide_eq_false (by omega)) rfl
   ·rw [decide_eq_false (fun h => a h.2.1 : ¬ (s.Items.length < 60 ∧ r.Id = (s.Items.length : Int) + 1 ∧ (r.Origin = 0 ∨ r.Origin = 1))),Bool.false_and]
    exact cnd_f (beq_eq_false_iff_ne.2 a) rfl
  ·rw [hsg]
   by_cases a : r.Origin = 0
   ·rw [if_pos a]; exact cnd_t (beq_iff_eq.2 a) rfl
   ·rw [if_neg a]; exact cnd_f (beq_eq_false_iff_ne.2 a) rfl
  ·refine (fin18 ⟨r.Kind,r.Mail,r.Id,[],r.Origin,0,0,[]⟩ r (by dsimp only; omega) (by dsimp only; omega) (by simp) (by simp) ok ⟨s.Items ++ [⟨r.Id,r.Mail,sg,0⟩],s.Packs,s.Sent,s.Part,s.Of,s.Done⟩).trans (fin_if (okR_if (okR1 k1) hok.symm) (fun _ => ?_))
   rw [eff1 k1,hsg]
 by_cases k2 : r.Kind = 2
 ·have hw : IntKind.i64.wrap (s.Packs + 1) = s.Packs + 1 := wrap_i64 (by omega) (by omega)
  obtain ⟨ok,hok⟩ : ∃ ok : Bool,ok = (decide (r.Number = s.Packs + 1) && decide (1 ≤ r.Ids.length ∧ r.Ids.length ≤ 4)) := ⟨_,rfl⟩
  obtain ⟨L,ok',h1,h2,h3⟩ := ra2_loop hs r (by omega) ok
  refine bndL (bndL (cnd_f (beq_eq_false_iff_ne.2 k1) (cnd_t (beq_iff_eq.2 k2) (bndL (s := ok) ?_ (bndL h1 rfl)))) rfl) ?_
  ·rw [hok]
   refine bnd (congrArg some hw) ?_
   by_cases a : r.Number = s.Packs + 1
   ·rw [decide_eq_true a,Bool.true_and]
    refine cnd_t (beq_iff_eq.2 a) (bnd (in18_eq _ _ _) (inl_of ?_))
    by_cases b : 1 ≤ r.Ids.length ∧ r.Ids.length ≤ 4
    ·rw [decide_eq_true b,decide_eq_true (by omega)]
    ·rw [decide_eq_false b,decide_eq_false (by omega)]
   ·rw [decide_eq_false a,Bool.false_and]
    exact cnd_f (beq_eq_false_iff_ne.2 a) rfl
  ·refine (z8 r.Kind 0 r.Ids 0 r.Number 0 [] (by omega) (by simp) r ok' ⟨L,r.Number,s.Sent,s.Part,s.Of,s.Done⟩).trans (fin_if (okR_if (okR2 k2) ?_) (fun h => ?_))
   ·rw [h2,hok]
    unfold idsB
    rw [Bool.and_assoc]
   ·rw [okR2 k2,Bool.and_eq_true,Bool.and_eq_true] at h
    have hi := h.2.2
    unfold idsB at hi
    rw [Bool.and_eq_true] at hi
    rw [eff2 k2,h3 (by rw [h2,hok,h.2.1,hi.1,hi.2]; rfl)]
 by_cases k3 : r.Kind = 3
 ·obtain ⟨ok,hok⟩ : ∃ ok : Bool,ok = decide (1 ≤ r.Number ∧ r.Number ≤ s.Packs ∧ r.Number ∉ s.Sent) := ⟨_,rfl⟩
  have hA : appO 8 s.Sent [r.Number] = some (s.Sent ++ [r.Number]) := app_of (by simp only [List.length_cons,List.length_nil]; omega) (by simp only [List.length_cons,List.length_nil]; omega)
  refine bndL (bndL (cnd_f (beq_eq_false_iff_ne.2 k1) (cnd_f (beq_eq_false_iff_ne.2 k2) (cnd_t (beq_iff_eq.2 k3) (bndL (s := ok) ?_ (bndL (ra3_loop s s r (by omega)) (bnd hA rfl)))))) rfl) ?_
  ·rw [hok]
   refine bnd (in18_eq _ _ _) ?_
   by_cases a : 1 ≤ r.Number ∧ r.Number ≤ s.Packs
   ·refine cnd_t (decide_eq_true a) (bnd (has18_eq _ _ (by omega)) (inl_of ?_))
    by_cases b : r.Number ∈ s.Sent
    ·rw [decide_eq_true b,decide_eq_false (fun h => h.2.2 b)]; rfl
    ·rw [decide_eq_false b,decide_eq_true (⟨a.1,a.2,b⟩ : 1 ≤ r.Number ∧ r.Number ≤ s.Packs ∧ r.Number ∉ s.Sent)]; rfl
   ·rw [decide_eq_false (fun h => a ⟨h.1,h.2.1⟩ : ¬ (1 ≤ r.Number ∧ r.Number ≤ s.Packs ∧ r.Number ∉ s.Sent))]
    exact cnd_f (decide_eq_false a) rfl
  ·refine (z8 r.Kind 0 [] 0 r.Number 0 [] (by simp) (by simp) r ok ⟨s.Items.map (g3 r.Number),s.Packs,s.Sent ++ [r.Number],s.Part,s.Of,s.Done⟩).trans (fin_if (okR_if (okR3 k3) hok.symm) (fun h => ?_))
   rw [okR3 k3,Bool.and_eq_true] at h
   have h := of_decide_eq_true h.2
   rw [eff3 k3,g3_f3 h.1 ht]
 by_cases k4 : r.Kind = 4
 ·by_cases a : 1 ≤ r.Id ∧ r.Id ≤ (s.Items.length : Int)
  ·obtain ⟨k,hk⟩ : ∃ k : Nat,r.Id = (k : Int) + 1 := ⟨(r.Id - 1).toNat,by omega⟩
   have hkl : k < s.Items.length := by omega
   have w1 : some (IntKind.i64.wrap (r.Id - 1)) = some (k : Int) := by rw [hk,Int.add_sub_cancel,wrap_nat _ (by omega)]
   have hgk : getO s.Items k = some s.Items[k] := by simp [getO,hkl]
   have hwt : wt s r.Id = (s.Items[k].State == 1) := by
    unfold wt
    rw [decide_eq_true a,Bool.true_and,hk,Int.add_sub_cancel,Int.toNat_natCast,List.getElem?_eq_getElem hkl]
    simp
   by_cases b : s.Items[k].State = 1
   ·refine bndL (bndL (cnd_f (beq_eq_false_iff_ne.2 k1) (cnd_f (beq_eq_false_iff_ne.2 k2) (cnd_f (beq_eq_false_iff_ne.2 k3) (cnd_t (beq_iff_eq.2 k4) (bndL (s := true) (bnd (in18_eq _ _ _) (cnd_t (decide_eq_true a) (bnd w1 (bnd (ixO_of hkl) (bnd hgk (inl_of (beq_iff_eq.2 b))))))) (cnd_t rfl (bnd w1 (bnd (ixO_of hkl) (bnd hgk (bnd rfl rfl)))))))))) rfl) ?_
    refine (z8 r.Kind r.Id [] 0 0 0 [] (by simp) (by simp) r true ⟨s.Items.set k ⟨s.Items[k].Id,s.Items[k].Mail,4,s.Items[k].Pack⟩,s.Packs,s.Sent,s.Part,s.Of,s.Done⟩).trans (fin_if (okR_if (okR4 k4) (by rw [hwt,beq_iff_eq.2 b])) (fun h => ?_))
    rw [eff4 k4,set4 hs.ids hkl,hk]
   ·refine bndL (bndL (cnd_f (beq_eq_false_iff_ne.2 k1) (cnd_f (beq_eq_false_iff_ne.2 k2) (cnd_f (beq_eq_false_iff_ne.2 k3) (cnd_t (beq_iff_eq.2 k4) (bndL (s := false) (bnd (in18_eq _ _ _) (cnd_t (decide_eq_true a) (bnd w1 (bnd (ixO_of hkl) (bnd hgk (inl_of (beq_eq_false_iff_ne.2 b))))))) (cnd_f rfl rfl)))))) rfl) ?_
    refine (z8 r.Kind r.Id [] 0 0 0 [] (by simp) (by simp) r false ⟨s.Items,s.Packs,s.Sent,s.Part,s.Of,s.Done⟩).trans (fin_if (okR_if (okR4 k4) (by rw [hwt,beq_eq_false_iff_ne.2 b])) (fun h => ?_))
    rw [okR4 k4,hwt,beq_eq_false_iff_ne.2 b] at h
    simp at h
  ·have hwt : wt s r.Id = false := by unfold wt; rw [decide_eq_false a]; rfl
   refine bndL (bndL (cnd_f (beq_eq_false_iff_ne.2 k1) (cnd_f (beq_eq_false_iff_ne.2 k2) (cnd_f (beq_eq_false_iff_ne.2 k3) (cnd_t (beq_iff_eq.2 k4) (bndL (s := false) (bnd (in18_eq _ _ _) (cnd_f (decide_eq_false a) rfl)) (cnd_f rfl rfl)))))) rfl) ?_
   refine (z8 r.Kind r.Id [] 0 0 0 [] (by simp) (by simp) r false ⟨s.Items,s.Packs,s.Sent,s.Part,s.Of,s.Done⟩).trans (fin_if (okR_if (okR4 k4) hwt) (fun h => ?_))
   rw [okR4 k4,hwt] at h
   simp at h
 have hopn : ∀ (a : 1 ≤ r.Number ∧ r.Number ≤ 65535),opn s r.Number = !decide (r.Number ∈ s.Done) := fun a => by unfold opn; rw [decide_eq_true a,Bool.true_and]
 have hopf : ∀ (a : ¬ (1 ≤ r.Number ∧ r.Number ≤ 65535)),opn s r.Number = false := fun a => by unfold opn; rw [decide_eq_false a,Bool.false_and]
 by_cases k5 : r.Kind = 5
 ·obtain ⟨o1,ho1⟩ : ∃ o1 : Bool,o1 = (opn s r.Number && (decide (1 ≤ r.Data.length ∧ r.Data.length ≤ 48) && (decide (r.Offset = 0) || decide (s.Of = r.Number ∧ r.Offset = (s.Part.length : Int))))) := ⟨_,rfl⟩
  obtain ⟨pt,hpt⟩ : ∃ pt : List Int,pt = (if r.Offset = 0 then r.Data else s.Part ++ r.Data) := ⟨_,rfl⟩
  obtain ⟨of_,hof⟩ : ∃ of_ : Int,of_ = (if r.Offset = 0 then r.Number else s.Of) := ⟨_,rfl⟩
  refine bndL (bndL (cnd_f (beq_eq_false_iff_ne.2 k1) (cnd_f (beq_eq_false_iff_ne.2 k2) (cnd_f (beq_eq_false_iff_ne.2 k3) (cnd_f (beq_eq_false_iff_ne.2 k4) (cnd_t (beq_iff_eq.2 k5) (bndL (s := o1) ?_ (bndL (s := (pt,of_)) ?_ (bndL (s := o1 && decide (pt.length ≤ 5000)) ?_ rfl)))))))) rfl) ?_
  ·rw [ho1]
   refine bnd (in18_eq _ _ _) ?_
   by_cases a : 1 ≤ r.Number ∧ r.Number ≤ 65535
   ·rw [hopn a]
    refine cnd_t (decide_eq_true a) (bnd (has18_eq _ _ (by omega)) ?_)
    cases hin : decide (r.Number ∈ s.Done)
    ·refine cnd_t rfl (bnd (in18_eq _ _ _) ?_)
     by_cases b : 1 ≤ r.Data.length ∧ r.Data.length ≤ 48
     ·rw [decide_eq_true b]
      refine cnd_t (decide_eq_true (by omega)) ?_
      by_cases c : r.Offset = 0
      ·rw [decide_eq_true c]; exact cnd_t (beq_iff_eq.2 c) rfl
      ·rw [decide_eq_false c]
       refine cnd_f (beq_eq_false_iff_ne.2 c) ?_
       by_cases d : s.Of = r.Number
       ·refine cnd_t (beq_iff_eq.2 d) (inl_of ?_)
        by_cases e : r.Offset = (s.Part.length : Int)
        ·rw [beq_iff_eq.2 e,decide_eq_true (⟨d,e⟩ : s.Of = r.Number ∧ r.Offset = (s.Part.length : Int))]; rfl
        ·rw [beq_eq_false_iff_ne.2 e,decide_eq_false (fun h => e h.2 : ¬ (s.Of = r.Number ∧ r.Offset = (s.Part.length : Int)))]; rfl
       ·rw [decide_eq_false (fun h => d h.1 : ¬ (s.Of = r.Number ∧ r.Offset = (s.Part.length : Int)))]
        exact cnd_f (beq_eq_false_iff_ne.2 d) rfl
     ·rw [decide_eq_false b]
      exact cnd_f (decide_eq_false (by omega)) rfl
    ·exact cnd_f rfl rfl
   ·rw [hopf a]
    exact cnd_f (decide_eq_false a) rfl
  ·rw [hpt,hof]
   by_cases c : r.Offset = 0
   ·rw [if_pos c,if_pos c]
    exact cnd_t (beq_iff_eq.2 c) (bnd (bnd (app_nil (by omega) (by omega)) rfl) rfl)
   ·rw [if_neg c,if_neg c]
    exact cnd_f (beq_eq_false_iff_ne.2 c) (bnd (app_of (by omega) (by omega)) rfl)
  ·cases o1
   ·exact cnd_f rfl rfl
   ·refine cnd_t rfl (inl_of ?_)
    rw [Bool.true_and]
    by_cases h : pt.length ≤ 5000
    ·rw [decide_eq_true h,decide_eq_true (by omega)]
    ·rw [decide_eq_false h,decide_eq_false (by omega)]
  ·have hK : (opn s r.Number && ckB s r) = (o1 && decide (pt.length ≤ 5000)) := by
    rw [ho1,hpt]
    unfold ckB
    by_cases c : r.Offset = 0
    ·rw [if_pos c,decide_eq_true c]
     by_cases b : 1 ≤ r.Data.length ∧ r.Data.length ≤ 48
     ·rw [decide_eq_true b,decide_eq_true (by omega : r.Data.length ≤ 5000)]; simp
     ·rw [decide_eq_false b]; simp
    ·rw [if_neg c,decide_eq_false c,List.length_append]
     by_cases d : s.Of = r.Number ∧ r.Offset = (s.Part.length : Int)
     ·rw [decide_eq_true d]
      by_cases e : s.Part.length + r.Data.length ≤ 5000
      ·rw [decide_eq_true e,decide_eq_true (⟨d.1,d.2,e⟩ : s.Of = r.Number ∧ r.Offset = (s.Part.length : Int) ∧ s.Part.length + r.Data.length ≤ 5000)]; simp
      ·rw [decide_eq_false e,decide_eq_false (fun h => e h.2.2 : ¬ (s.Of = r.Number ∧ r.Offset = (s.Part.length : Int) ∧ s.Part.length + r.Data.length ≤ 5000))]; simp
     ·rw [decide_eq_false d,decide_eq_false (fun h => d ⟨h.1,h.2.1⟩ : ¬ (s.Of = r.Number ∧ r.Offset = (s.Part.length : Int) ∧ s.Part.length + r.Data.length ≤ 5000))]; simp
   refine (z8 r.Kind 0 [] 0 r.Number r.Offset r.Data (by simp) (by omega) r (o1 && decide (pt.length ≤ 5000)) ⟨s.Items,s.Packs,s.Sent,pt,of_,s.Done⟩).trans (fin_if (okR_if (okR5 k5) hK) (fun h => ?_))
   rw [eff5 k5,hpt,hof]
 by_cases k6 : r.Kind = 6
 ·have hlp := ra6_loop s s r (by omega) s.Done.length 0 BIG [] false (by omega) (by simp only [BIG]; omega) (by simp)
  rw [List.drop_zero,List.nil_append] at hlp
  have hgl := gI_len r.Number s.Done false
  obtain ⟨q,hq⟩ : ∃ q : List Int,q = (gI r.Number s.Done false).1 ++ (if (gI r.Number s.Done false).2 = true then [] else [r.Number]) := ⟨_,rfl⟩
  obtain ⟨p1,hp1⟩ : ∃ p1 : List Int,p1 = (if s.Of = r.Number then [] else s.Part) := ⟨_,rfl⟩
  obtain ⟨p2,hp2⟩ : ∃ p2 : Int,p2 = (if s.Of = r.Number then -1 else s.Of) := ⟨_,rfl⟩
  refine bndL (bndL (s := (s.Items,s.Packs,s.Sent,p1,p2,q,false,e8,e8,[],[],false,e8,0,0,[],0,r.Number,0,[],opn s r.Number)) (cnd_f (beq_eq_false_iff_ne.2 k1) (cnd_f (beq_eq_false_iff_ne.2 k2) (cnd_f (beq_eq_false_iff_ne.2 k3) (cnd_f (beq_eq_false_iff_ne.2 k4) (cnd_f (beq_eq_false_iff_ne.2 k5) (cnd_t (beq_iff_eq.2 k6) (bndL (s := opn s r.Number) ?_ (bndL hlp (bndL (s := q) ?_ ?_))))))))) rfl) ?_
  ·refine bnd (in18_eq _ _ _) ?_
   by_cases a : 1 ≤ r.Number ∧ r.Number ≤ 65535
   ·rw [hopn a]
    exact cnd_t (decide_eq_true a) (bnd (has18_eq _ _ (by omega)) rfl)
   ·rw [hopf a]
    exact cnd_f (decide_eq_false a) rfl
  ·rw [hq]
   cases hb : (gI r.Number s.Done false).2
   ·rw [if_neg (by simp)]
    exact cnd_t rfl (bnd (app_of (by simp; omega) (by simp; omega)) rfl)
   ·rw [if_pos rfl,List.append_nil]
    exact cnd_f rfl rfl
  ·rw [hp1,hp2]
   by_cases h : s.Of = r.Number
   ·rw [if_pos h,if_pos h]; exact cnd_t (beq_iff_eq.2 h) rfl
   ·rw [if_neg h,if_neg h]; exact cnd_f (beq_eq_false_iff_ne.2 h) rfl
  ·refine (z8 r.Kind 0 [] 0 r.Number 0 [] (by simp) (by simp) r (opn s r.Number) ⟨s.Items,s.Packs,s.Sent,p1,p2,q⟩).trans (fin_if (okR_if (okR6 k6) rfl) (fun h => ?_))
   rw [okR6 k6,Bool.and_eq_true] at h
   have hnd : r.Number ∉ s.Done := by
    have := h.2
    simp only [opn,Bool.and_eq_true,Bool.not_eq_true',decide_eq_false_iff_not] at this
    exact this.2
   rw [eff6 k6,hq,gI_ins _ _ hnd,hp1,hp2]
 ·refine bndL (bndL (cnd_f (beq_eq_false_iff_ne.2 k1) (cnd_f (beq_eq_false_iff_ne.2 k2) (cnd_f (beq_eq_false_iff_ne.2 k3) (cnd_f (beq_eq_false_iff_ne.2 k4) (cnd_f (beq_eq_false_iff_ne.2 k5) (cnd_f (beq_eq_false_iff_ne.2 k6) rfl)))))) rfl) ?_
  refine (z8 r.Kind 0 [] 0 0 0 [] (by simp) (by simp) r false ⟨s.Items,s.Packs,s.Sent,s.Part,s.Of,s.Done⟩).trans (fin_if (okR_if (okR7 k1 k2 k3 k4 k5 k6) rfl) (fun h => ?_))
  rw [okR7 k1 k2 k3 k4 k5 k6] at h
  simp at h
end Go.Abs.Sh
