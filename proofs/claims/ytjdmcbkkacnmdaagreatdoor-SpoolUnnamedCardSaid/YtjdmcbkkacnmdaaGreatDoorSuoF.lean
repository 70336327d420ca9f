import Derived.Test.YtjdmcbkkacnmdaaGreatDoorSuoE
namespace Go.Abs.Sh
set_option linter.unusedVariables false
set_option linter.unusedSimpArgs false
set_option maxRecDepth 10000
def upd {A : Type} (f : A → A) (k : Nat) (l : List A) : List A := (l.take k).map f ++ l.drop k
theorem upd_len {A : Type} (f : A → A) (k : Nat) (l : List A) : (upd f k l).length = l.length := by simp [upd]; omega
theorem upd_get {A : Type} (f : A → A) {k : Nat} {l : List A} (h : k < l.length) : getO (upd f k l) k = some l[k] := by
 simp only [getO,upd]
 rw [List.getElem?_append_right (by simp; omega)]
 simp [Nat.min_eq_left (Nat.le_of_lt h),h]
theorem upd_succ {A : Type} (f : A → A) {k : Nat} {l : List A} (h : k < l.length) : upd f (k + 1) l = (l.take k).map f ++ f l[k] :: l.drop (k + 1) := by
 simp only [upd]
 rw [take_succ l k h,List.map_append,List.append_assoc]
 rfl
theorem upd_set {A : Type} (f : A → A) {k : Nat} {l : List A} (h : k < l.length) (x : A) (hx : x = f l[k]) : (upd f k l).set k x = upd f (k + 1) l := by
 subst hx
 rw [upd_succ f h]
 simp only [upd]
 rw [List.set_append_right _ _ (by simp; omega)]
 congr 1
 rw [show k - ((l.take k).map f).length = 0 from by simp; omega,List.drop_eq_getElem_cons h]
 rfl
theorem upd_same {A : Type} (f : A → A) {k : Nat} {l : List A} (h : k < l.length) (hx : f l[k] = l[k]) : upd f k l = upd f (k + 1) l := by
 rw [upd_succ f h,hx]
 simp only [upd]
 rw [List.drop_eq_getElem_cons h]
theorem upd_all {A : Type} (f : A → A) (l : List A) : upd f l.length l = l.map f := by simp [upd]
def ap2 (s : T_Spool) (p_r : T_Rec) : ((List T_Item) × Int) → Option (((List T_Item) × Int) ⊕ (((List T_Item)) ⊕ (((List T_Item) × Int × (List Int) × (List Int) × Int × (List Int)) ⊕ T_Spool))) := (fun ((s158,s159) : (List T_Item) × Int) =>
      cond ((decide (s159 < (s.Items.length : Int))))
       (bindS (S := (List T_Item)) (A := (((List T_Item) × Int) ⊕ (((List T_Item)) ⊕ (((List T_Item) × Int × (List Int) × (List Int) × Int × (List Int)) ⊕ T_Spool))))
        ((ixO s159 s158.length).bind fun v12 =>
        (getO s158 v12).bind fun v13 =>
        (slices_Contains_int_int p_r.Ids v13.Id).bind fun v14 =>
        cond (v14)
         ((ixO s159 s158.length).bind fun v16 =>
         (getO s158 v16).bind fun v17 =>
         (some (s158.set v16 ((T_Item.mk v17.Id ((T_Mail.mk (T_Path.mk v17.Mail.From.Null v17.Mail.From.Local v17.Mail.From.Domain) v17.Mail.To v17.Mail.Body v17.Mail.Quiet v17.Mail.Helo v17.Mail.At)) 2 v17.Pack)))).bind fun v18 =>
         (ixO s159 v18.length).bind fun v19 =>
         (getO v18 v19).bind fun v20 =>
         (some (v18.set v19 ((T_Item.mk v20.Id ((T_Mail.mk (T_Path.mk v20.Mail.From.Null v20.Mail.From.Local v20.Mail.From.Domain) v20.Mail.To v20.Mail.Body v20.Mail.Quiet v20.Mail.Helo v20.Mail.At)) v20.State p_r.Number)))).bind fun v21 =>
         some (.inl v21))
         (some (.inl s158)))
        (fun (s176 : (List T_Item)) =>
         (some (IntKind.i64.wrap (s159 + 1))).bind fun v27 =>
         some (.inl (s176,v27))) some)
       (some (.inr (.inl s158))))
def ap3 (s : T_Spool) (p_r : T_Rec) : ((List T_Item) × Int) → Option (((List T_Item) × Int) ⊕ (((List T_Item)) ⊕ (((List T_Item) × Int × (List Int) × (List Int) × Int × (List Int)) ⊕ T_Spool))) := (fun ((s198,s199) : (List T_Item) × Int) =>
       cond ((decide (s199 < (s.Items.length : Int))))
        (bindS (S := (List T_Item)) (A := (((List T_Item) × Int) ⊕ (((List T_Item)) ⊕ (((List T_Item) × Int × (List Int) × (List Int) × Int × (List Int)) ⊕ T_Spool))))
         ((ixO s199 s198.length).bind fun v62 =>
         (getO s198 v62).bind fun v63 =>
         cond ((v63.Pack == p_r.Number))
          ((ixO s199 s198.length).bind fun v65 =>
          (getO s198 v65).bind fun v66 =>
          (some (s198.set v65 ((T_Item.mk v66.Id ((T_Mail.mk (T_Path.mk v66.Mail.From.Null v66.Mail.From.Local v66.Mail.From.Domain) v66.Mail.To v66.Mail.Body v66.Mail.Quiet v66.Mail.Helo v66.Mail.At)) 3 v66.Pack)))).bind fun v67 =>
          some (.inl v67))
          (some (.inl s198)))
         (fun (s216 : (List T_Item)) =>
          (some (IntKind.i64.wrap (s199 + 1))).bind fun v73 =>
          some (.inl (s216,v73))) some)
        (some (.inr (.inl s198))))
theorem loop2 (s : T_Spool) (r : T_Rec) (hl : s.Items.length < 1000000) (hi : r.Ids.length < 1000000) : loopF (ap2 s r) BIG (s.Items,0) = some (.inl (s.Items.map (f2 r.Ids r.Number))) := by
 refine loop_from (fun k => (upd (f2 r.Ids r.Number) k s.Items,(k : Int))) s.Items.length BIG rfl (by simp only [BIG]; omega) (fun k hk => ?_) ?_
 ·have hx : ixO (k : Int) (upd (f2 r.Ids r.Number) k s.Items).length = some k := ixO_of (by rw [upd_len]; exact hk)
  have hg := upd_get (f2 r.Ids r.Number) hk
  refine cnd_t (decide_eq_true (by omega)) (bndL (s := upd (f2 r.Ids r.Number) (k + 1) s.Items) (bnd hx (bnd hg (bnd (contains_eq _ _ (by omega)) ?_))) (bnd (congrArg some (wrap_succ (n := k) (by omega))) rfl))
  by_cases hm : s.Items[k].Id ∈ r.Ids
  ·refine cnd_t (decide_eq_true hm) (bnd hx (bnd hg (bnd rfl ?_)))
   refine bnd (x := k) (ixO_of (by rw [List.length_set,upd_len]; exact hk)) (bnd (x := ⟨s.Items[k].Id,s.Items[k].Mail,2,s.Items[k].Pack⟩) ?_ (bnd rfl ?_))
   ·simp only [getO]
    rw [List.getElem?_set_self (by rw [upd_len]; exact hk)]
   ·rw [List.set_set,upd_set (f2 r.Ids r.Number) hk _ (by simp only [f2,if_pos hm])]
  ·exact cnd_f (decide_eq_false hm) (by rw [upd_same (f2 r.Ids r.Number) hk (by simp only [f2,if_neg hm])])
 ·exact cnd_f (decide_eq_false (by omega)) (by simp only [upd_all])
theorem loop3 (s : T_Spool) (r : T_Rec) (hl : s.Items.length < 1000000) : loopF (ap3 s r) BIG (s.Items,0) = some (.inl (s.Items.map (f3 r.Number))) := by
 refine loop_from (fun k => (upd (f3 r.Number) k s.Items,(k : Int))) s.Items.length BIG rfl (by simp only [BIG]; omega) (fun k hk => ?_) ?_
 ·have hx : ixO (k : Int) (upd (f3 r.Number) k s.Items).length = some k := ixO_of (by rw [upd_len]; exact hk)
  have hg := upd_get (f3 r.Number) hk
  refine cnd_t (decide_eq_true (by omega)) (bndL (s := upd (f3 r.Number) (k + 1) s.Items) (bnd hx (bnd hg ?_)) (bnd (congrArg some (wrap_succ (n := k) (by omega))) rfl))
  by_cases hm : s.Items[k].Pack = r.Number
  ·refine cnd_t (beq_iff_eq.2 hm) (bnd hx (bnd hg (bnd rfl ?_)))
   rw [upd_set (f3 r.Number) hk _ (by simp only [f3,if_pos hm])]
  ·exact cnd_f (beq_eq_false_iff_ne.2 hm) (by rw [upd_same (f3 r.Number) hk (by simp only [f3,if_neg hm])])
 ·exact cnd_f (decide_eq_false (by omega)) (by simp only [upd_all])
theorem wt_at {s : T_Spool} {n : Int} (h : wt s n = true) : ∃ (k : Nat) (hk : k < s.Items.length),n = (k : Int) + 1 ∧ s.Items[k].State = 1 := by
 simp only [wt,Bool.and_eq_true,decide_eq_true_eq] at h
 obtain ⟨⟨h1,h2⟩,h3⟩ := h
 refine ⟨(n - 1).toNat,by omega,by omega,?_⟩
 rw [List.getElem?_eq_getElem (by omega)] at h3
 simpa using h3
theorem set4 {s : T_Spool} (hid : Ids s) {k : Nat} (hk : k < s.Items.length) : s.Items.set k ⟨s.Items[k].Id,s.Items[k].Mail,4,s.Items[k].Pack⟩ = s.Items.map (f4 ((k : Int) + 1)) := by
 refine List.ext_getElem (by simp) fun i h1 h2 => ?_
 have hi : i < s.Items.length := by simpa using h2
 rw [List.getElem_map,List.getElem_set]
 by_cases h : k = i
 ·subst h
  rw [if_pos rfl]
  simp only [f4,if_pos (hid k hk)]
 ·rw [if_neg h]
  have := hid i hi
  simp only [f4]
  rw [if_neg (by omega)]
theorem apply_eq {n : Nat} {s : T_Spool} {r : T_Rec} (hs : Inv n s) (hr : Rok r) (ho : okS s r = true) : spool_apply s r = some (eff s r) := by
 have hl := hs.len; have hn := hs.hn; have hp := hs.part; have hse := hs.sent; have hd := hs.done
 have hd6 := hr.1.1; have hi6 := hr.1.2.1
 unfold spool_apply eff
 unfold okS at ho
 rw [Bool.and_eq_true] at ho
 replace ho := ho.2
 by_cases k1 : r.Kind = 1
 ·rw [if_pos k1]
  have hA : ∀ st : Int,((clone_Mail r.Mail).bind fun v8 => (appO 144 s.Items [(T_Item.mk r.Id v8 st 0)]).bind fun v9 => some (.inl (v9,s.Packs,s.Sent,s.Part,s.Of,s.Done) : _ ⊕ T_Spool)) = some (.inl (s.Items ++ [⟨r.Id,r.Mail,st,0⟩],s.Packs,s.Sent,s.Part,s.Of,s.Done)) := fun st =>
   bnd (clone_mail hr.1.2.2) (bnd (app_of (by simp only [List.length_cons,List.length_nil]; omega) (by simp only [List.length_cons,List.length_nil]; omega)) rfl)
  by_cases a : r.Origin = 0
  ·rw [if_pos a]
   exact bndL (cnd_t (beq_iff_eq.2 k1) (bndL (s := 3) (cnd_t (beq_iff_eq.2 a) rfl) (hA 3))) rfl
  ·rw [if_neg a]
   exact bndL (cnd_t (beq_iff_eq.2 k1) (bndL (s := 1) (cnd_f (beq_eq_false_iff_ne.2 a) rfl) (hA 1))) rfl
 rw [if_neg k1] at ho ⊢
 by_cases k2 : r.Kind = 2
 ·rw [if_pos k2]
  exact bndL (cnd_f (beq_eq_false_iff_ne.2 k1) (cnd_t (beq_iff_eq.2 k2) (bndL (loop2 s r (by omega) (by omega)) rfl))) rfl
 rw [if_neg k2] at ho ⊢
 by_cases k3 : r.Kind = 3
 ·rw [if_pos k3]
  refine bndL (cnd_f (beq_eq_false_iff_ne.2 k1) (cnd_f (beq_eq_false_iff_ne.2 k2) (cnd_t (beq_iff_eq.2 k3) (bndL (loop3 s r (by omega)) (bnd (app_of ?_ ?_) rfl))))) rfl
  ·simp only [List.length_cons,List.length_nil]; omega
  ·simp only [List.length_cons,List.length_nil]; omega
 rw [if_neg k3] at ho ⊢
 by_cases k4 : r.Kind = 4
 ·rw [if_pos k4] at ho ⊢
  obtain ⟨k,hk,he,_⟩ := wt_at ho
  have hf := find_eq s hs.ids (by omega) r.Id
  rw [if_pos (by omega),he,Int.add_sub_cancel] at hf
  rw [he,← set4 hs.ids hk]
  exact bndL (cnd_f (beq_eq_false_iff_ne.2 k1) (cnd_f (beq_eq_false_iff_ne.2 k2) (cnd_f (beq_eq_false_iff_ne.2 k3) (cnd_t (beq_iff_eq.2 k4) (bnd (he ▸ hf) (bnd (ixO_of hk) (bnd (by simp [getO,hk] : getO s.Items k = some s.Items[k]) (bnd rfl rfl)))))))) rfl
 rw [if_neg k4] at ho ⊢
 by_cases k5 : r.Kind = 5
 ·rw [if_pos k5] at ho ⊢
  by_cases a : r.Offset = 0
  ·rw [if_pos a,if_pos a]
   exact bndL (cnd_f (beq_eq_false_iff_ne.2 k1) (cnd_f (beq_eq_false_iff_ne.2 k2) (cnd_f (beq_eq_false_iff_ne.2 k3) (cnd_f (beq_eq_false_iff_ne.2 k4) (cnd_t (beq_iff_eq.2 k5) (bndL (cnd_t (beq_iff_eq.2 a) rfl) (bnd (app_nil (by omega) (by omega)) rfl))))))) rfl
  ·rw [if_neg a,if_neg a]
   exact bndL (cnd_f (beq_eq_false_iff_ne.2 k1) (cnd_f (beq_eq_false_iff_ne.2 k2) (cnd_f (beq_eq_false_iff_ne.2 k3) (cnd_f (beq_eq_false_iff_ne.2 k4) (cnd_t (beq_iff_eq.2 k5) (bndL (cnd_f (beq_eq_false_iff_ne.2 a) rfl) (bnd (app_of (by omega) (by omega)) rfl))))))) rfl
 rw [if_neg k5] at ho ⊢
 by_cases k6 : r.Kind = 6
 ·by_cases a : s.Of = r.Number
  ·rw [if_pos a,if_pos a]
   exact bndL (cnd_f (beq_eq_false_iff_ne.2 k1) (cnd_f (beq_eq_false_iff_ne.2 k2) (cnd_f (beq_eq_false_iff_ne.2 k3) (cnd_f (beq_eq_false_iff_ne.2 k4) (cnd_f (beq_eq_false_iff_ne.2 k5) (cnd_t (beq_iff_eq.2 k6) ((done_ins s.Done r.Number hs.srt (by omega) _).trans (cnd_t (beq_iff_eq.2 a) rfl)))))))) rfl
  ·rw [if_neg a,if_neg a]
   exact bndL (cnd_f (beq_eq_false_iff_ne.2 k1) (cnd_f (beq_eq_false_iff_ne.2 k2) (cnd_f (beq_eq_false_iff_ne.2 k3) (cnd_f (beq_eq_false_iff_ne.2 k4) (cnd_f (beq_eq_false_iff_ne.2 k5) (cnd_t (beq_iff_eq.2 k6) ((done_ins s.Done r.Number hs.srt (by omega) _).trans (cnd_f (beq_eq_false_iff_ne.2 a) rfl)))))))) rfl
 ·rw [if_neg k6] at ho; cases ho
theorem okS_ok {s : T_Spool} {r : T_Rec} (h : okS s r = true) : (r.Kind = 1 ∧ s.Items.length < 60 ∧ r.Id = (s.Items.length : Int) + 1 ∧ (r.Origin = 0 ∨ r.Origin = 1)) ∨ (r.Kind = 2 ∧ r.Number = s.Packs + 1 ∧ idsB s r.Ids = true) ∨ (r.Kind = 3 ∧ 1 ≤ r.Number ∧ r.Number ≤ s.Packs ∧ r.Number ∉ s.Sent) ∨ (r.Kind = 4 ∧ wt s r.Id = true) ∨ (r.Kind = 5 ∧ opn s r.Number = true ∧ ckB s r = true) ∨ (r.Kind = 6 ∧ opn s r.Number = true) := by
 unfold okS at h
 rw [Bool.and_eq_true] at h
 replace h := h.2
 by_cases k1 : r.Kind = 1
 ·rw [if_pos k1,Bool.and_eq_true] at h; exact .inl ⟨k1,of_decide_eq_true h.1⟩
 rw [if_neg k1] at h
 by_cases k2 : r.Kind = 2
 ·rw [if_pos k2,Bool.and_eq_true] at h; exact .inr (.inl ⟨k2,of_decide_eq_true h.1,h.2⟩)
 rw [if_neg k2] at h
 by_cases k3 : r.Kind = 3
 ·rw [if_pos k3] at h; exact .inr (.inr (.inl ⟨k3,of_decide_eq_true h⟩))
 rw [if_neg k3] at h
 by_cases k4 : r.Kind = 4
 ·rw [if_pos k4] at h; exact .inr (.inr (.inr (.inl ⟨k4,h⟩)))
 rw [if_neg k4] at h
 by_cases k5 : r.Kind = 5
 ·rw [if_pos k5,Bool.and_eq_true] at h; exact .inr (.inr (.inr (.inr (.inl ⟨k5,h⟩))))
 rw [if_neg k5] at h
 by_cases k6 : r.Kind = 6
 ·rw [if_pos k6] at h; exact .inr (.inr (.inr (.inr (.inr ⟨k6,h⟩))))
 rw [if_neg k6] at h; cases h
theorem eff1 {s : T_Spool} {r : T_Rec} (h : r.Kind = 1) : eff s r = ⟨s.Items ++ [⟨r.Id,r.Mail,if r.Origin = 0 then 3 else 1,0⟩],s.Packs,s.Sent,s.Part,s.Of,s.Done⟩ := by unfold eff; rw [if_pos h]
theorem eff2 {s : T_Spool} {r : T_Rec} (h : r.Kind = 2) : eff s r = ⟨s.Items.map (f2 r.Ids r.Number),r.Number,s.Sent,s.Part,s.Of,s.Done⟩ := by unfold eff; rw [if_neg (by omega),if_pos h]
theorem eff3 {s : T_Spool} {r : T_Rec} (h : r.Kind = 3) : eff s r = ⟨s.Items.map (f3 r.Number),s.Packs,s.Sent ++ [r.Number],s.Part,s.Of,s.Done⟩ := by unfold eff; rw [if_neg (by omega),if_neg (by omega),if_pos h]
theorem eff4 {s : T_Spool} {r : T_Rec} (h : r.Kind = 4) : eff s r = ⟨s.Items.map (f4 r.Id),s.Packs,s.Sent,s.Part,s.Of,s.Done⟩ := by unfold eff; rw [if_neg (by omega),if_neg (by omega),if_neg (by omega),if_pos h]
theorem eff5 {s : T_Spool} {r : T_Rec} (h : r.Kind = 5) : eff s r = ⟨s.Items,s.Packs,s.Sent,if r.Offset = 0 then r.Data else s.Part ++ r.Data,if r.Offset = 0 then r.Number else s.Of,s.Done⟩ := by unfold eff; rw [if_neg (by omega),if_neg (by omega),if_neg (by omega),if_neg (by omega),if_pos h]
theorem eff6 {s : T_Spool} {r : T_Rec} (h : r.Kind = 6) : eff s r = ⟨s.Items,s.Packs,s.Sent,if s.Of = r.Number then [] else s.Part,if s.Of = r.Number then -1 else s.Of,insS s.Done r.Number⟩ := by unfold eff; rw [if_neg (by omega),if_neg (by omega),if_neg (by omega),if_neg (by omega),if_neg (by omega)]
theorem f2_id (l : List Int) (n : Int) (x : T_Item) : (f2 l n x).Id = x.Id ∧ (f2 l n x).Mail = x.Mail := by unfold f2; split <;> exact ⟨rfl,rfl⟩
theorem f3_id (n : Int) (x : T_Item) : (f3 n x).Id = x.Id ∧ (f3 n x).Mail = x.Mail := by unfold f3; split <;> exact ⟨rfl,rfl⟩
theorem f4_id (n : Int) (x : T_Item) : (f4 n x).Id = x.Id ∧ (f4 n x).Mail = x.Mail := by unfold f4; split <;> exact ⟨rfl,rfl⟩
theorem inv_map {s : T_Spool} (f : T_Item → T_Item) (hf : ∀ x,(f x).Id = x.Id ∧ (f x).Mail = x.Mail) (hi : Ids s) (hm : ∀ x ∈ s.Items,LM x.Mail) {p : Int} {a b d : List Int} {o : Int} : Ids ⟨s.Items.map f,p,a,b,o,d⟩ ∧ ∀ x ∈ s.Items.map f,LM x.Mail := by
 refine ⟨fun i h => ?_,fun x hx => ?_⟩
 ·have h' : i < s.Items.length := by simpa using h
  show ((s.Items.map f)[i]'h).Id = _
  rw [List.getElem_map,(hf _).1]
  exact hi i h'
 ·obtain ⟨y,hy,rfl⟩ := List.mem_map.1 hx
  rw [(hf y).2]; exact hm y hy
theorem inv_eff {n : Nat} {s : T_Spool} {r : T_Rec} (hn1 : n + 1 < 1000000) (hs : Inv n s) (hr : Rok r) (ho : okS s r = true) : Inv (n + 1) (eff s r) := by
 have hl := hs.len; have hp := hs.part; have hse := hs.sent; have hd := hs.done; have hpk := hs.packs
 rcases okS_ok ho with ⟨k,a,b,c⟩ | ⟨k,a,b⟩ | ⟨k,a,b,c⟩ | ⟨k,a⟩ | ⟨k,a,b⟩ | ⟨k,a⟩
 ·rw [eff1 k]
  refine ⟨hn1,by simp; omega,fun i h => ?_,fun x hx => ?_,⟨hpk.1,(by omega : s.Packs ≤ ((n + 1 : Nat) : Int))⟩,Nat.le_succ_of_le hse,hp,Nat.le_succ_of_le hd,hs.srt⟩
  ·have h' : i < s.Items.length + 1 := by simpa using h
   show ((s.Items ++ [_])[i]'h).Id = _
   by_cases hi : i < s.Items.length
   ·rw [List.getElem_append_left hi]; exact hs.ids i hi
   ·rw [List.getElem_append_right (by omega)]
    have e : i - s.Items.length = 0 := by omega
    simp only [e,List.getElem_cons_zero]
    rw [b]; omega
  ·rcases List.mem_append.1 hx with h | h
   ·exact hs.lm x h
   ·rw [List.mem_singleton.1 h]; exact hr.1.2.2
 ·rw [eff2 k]
  have hm := inv_map (f2 r.Ids r.Number) (f2_id _ _) hs.ids hs.lm (p := r.Number) (a := s.Sent) (b := s.Part) (o := s.Of) (d := s.Done)
  refine ⟨hn1,by simp; omega,hm.1,hm.2,⟨by show 0 ≤ r.Number; omega,by show r.Number ≤ _; omega⟩,Nat.le_succ_of_le hse,hp,Nat.le_succ_of_le hd,hs.srt⟩
 ·rw [eff3 k]
  have hm := inv_map (f3 r.Number) (f3_id _) hs.ids hs.lm (p := s.Packs) (a := s.Sent ++ [r.Number]) (b := s.Part) (o := s.Of) (d := s.Done)
  refine ⟨hn1,by simp; omega,hm.1,hm.2,⟨hpk.1,(by omega : s.Packs ≤ ((n + 1 : Nat) : Int))⟩,(by simp; omega),hp,Nat.le_succ_of_le hd,hs.srt⟩
 ·rw [eff4 k]
  have hm := inv_map (f4 r.Id) (f4_id _) hs.ids hs.lm (p := s.Packs) (a := s.Sent) (b := s.Part) (o := s.Of) (d := s.Done)
  refine ⟨hn1,by simp; omega,hm.1,hm.2,⟨hpk.1,(by omega : s.Packs ≤ ((n + 1 : Nat) : Int))⟩,Nat.le_succ_of_le hse,hp,Nat.le_succ_of_le hd,hs.srt⟩
 ·rw [eff5 k]
  refine ⟨hn1,Nat.le_succ_of_le hl,hs.ids,hs.lm,⟨hpk.1,(by omega : s.Packs ≤ ((n + 1 : Nat) : Int))⟩,Nat.le_succ_of_le hse,?_,Nat.le_succ_of_le hd,hs.srt⟩
  simp only [ckB,Bool.and_eq_true,Bool.or_eq_true,decide_eq_true_eq] at b
  show (if r.Offset = 0 then r.Data else s.Part ++ r.Data).length ≤ 5000
  split
  ·omega
  ·rw [List.length_append]; omega
 ·rw [eff6 k]
  have hnd : r.Number ∉ s.Done := by
   simp only [opn,Bool.and_eq_true,Bool.not_eq_true',decide_eq_false_iff_not] at a
   exact a.2
  refine ⟨hn1,Nat.le_succ_of_le hl,hs.ids,hs.lm,⟨hpk.1,(by omega : s.Packs ≤ ((n + 1 : Nat) : Int))⟩,Nat.le_succ_of_le hse,?_,by show (insS s.Done r.Number).length ≤ _; rw [insS_len]; omega,insS_srt hs.srt hnd⟩
  show (if s.Of = r.Number then [] else s.Part).length ≤ 5000
  split
  ·simp
  ·exact hp
theorem inv_new : Inv 0 ⟨[],0,[],[],-1,[]⟩ := ⟨by omega,by simp,fun i h => absurd h (by simp),by simp,⟨by simp,by simp⟩,by simp,by simp,by simp,List.Pairwise.nil⟩
def eiS (l : List T_Item) : ((List T_Item) × Int) → Option (((List T_Item) × Int) ⊕ (((List T_Item)) ⊕ (List T_Item))) := (fun ((s10,s11) : (List T_Item) × Int) =>
   cond ((decide (s11 < (l.length : Int))))
    ((ixO s11 l.length).bind fun v2 =>
    (getO l v2).bind fun v3 =>
    (clone_Item ((T_Item.mk v3.Id ((T_Mail.mk (T_Path.mk v3.Mail.From.Null v3.Mail.From.Local v3.Mail.From.Domain) v3.Mail.To v3.Mail.Body v3.Mail.Quiet v3.Mail.Helo v3.Mail.At)) v3.State v3.Pack))).bind fun v4 =>
    (appO 144 s10 [(T_Item.mk v4.Id ((T_Mail.mk (T_Path.mk v4.Mail.From.Null v4.Mail.From.Local v4.Mail.From.Domain) v4.Mail.To v4.Mail.Body v4.Mail.Quiet v4.Mail.Helo v4.Mail.At)) v4.State v4.Pack)]).bind fun v5 =>
    (some (IntKind.i64.wrap (s11 + 1))).bind fun v6 =>
    some (.inl (v5,v6)))
    (some (.inr (.inl s10))))
theorem clone_eq {n : Nat} {s : T_Spool} (hs : Inv n s) : clone_Spool s = some s := by
 have hl := hs.len; have hn := hs.hn; have hp := hs.part; have hse := hs.sent; have hd := hs.done
 have he : clone_Each_api_Item_of_clone_Item s.Items = some s.Items := by
  unfold clone_Each_api_Item_of_clone_Item
  refine bndL (s := s.Items) (loop_from (f := eiS s.Items) (fun k => (s.Items.take k,(k : Int))) s.Items.length BIG rfl (by simp only [BIG]; omega) (fun k hk => ?_) ?_) rfl
  ·refine cnd_t (decide_eq_true (by omega)) (bnd (ixO_of hk) (bnd (by simp [getO,hk] : getO s.Items k = some s.Items[k]) (bnd (x := s.Items[k]) ?_ (bnd (app_of ?_ ?_) (bnd (congrArg some (wrap_succ (n := k) (by omega))) ?_)))))
   ·unfold clone_Item
    exact bnd (clone_mail (hs.lm _ (List.getElem_mem hk))) rfl
   ·simp; omega
   ·simp; omega
   ·rw [take_succ _ k hk]
  ·exact cnd_f (decide_eq_false (by omega)) (by simp only [List.take_length])
 unfold clone_Spool
 refine bnd he (bnd (x := s.Sent) ?_ (bnd (x := s.Part) ?_ (bnd (x := s.Done) ?_ rfl)))
 ·exact bnd (app_nil (by omega) (by omega)) rfl
 ·exact bnd (app_nil (by omega) (by omega)) rfl
 ·exact bnd (app_nil (by omega) (by omega)) rfl
def noSp : T_Spool := ⟨[],0,[],[],0,[]⟩
theorem add_eq {n : Nat} {s : T_Spool} {r : T_Rec} (hs : Inv n s) (hr : Rok r) : spool_Add s r = some (if okS s r = true then (eff s r,0) else (noSp,5)) := by
 unfold spool_Add
 refine bnd (valid_eq hs hr) ?_
 cases ho : okS s r
 ·exact cnd_t rfl rfl
 ·exact cnd_f rfl (bnd (clone_eq hs) (bnd (apply_eq hs hr ho) rfl))
def newSp : T_Spool := ⟨[],0,[],[],-1,[]⟩
end Go.Abs.Sh
