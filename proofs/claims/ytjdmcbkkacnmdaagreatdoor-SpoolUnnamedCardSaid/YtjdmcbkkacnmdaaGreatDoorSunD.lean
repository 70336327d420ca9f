import Derived.Test.YtjdmcbkkacnmdaaGreatDoorSunC
namespace Go.Abs.Sh
set_option linter.unusedVariables false
set_option linter.unusedSimpArgs false
set_option maxRecDepth 100000
theorem cf {c : Bool} {A : Type} {x : Option (Bool ⊕ A)} (h : c = true → x = some (.inl false)) : cond c x (some (.inl false)) = some (.inl false) := by
 cases c
 ·rfl
 ·exact h rfl
theorem empty_no {q : T_Rec} (h : q.Id ≠ 0 ∨ q.Ids ≠ [] ∨ q.Origin ≠ 0 ∨ q.Offset ≠ 0 ∨ q.Data ≠ []) : spool_empty q = some false := by
 unfold spool_empty
 have hp : PL (A := Bool) (cond (((q.Mail.From.Null == false) && ((q.Mail.From.Local.toList == (⟨#[]⟩ : ByteArray).toList) && ((q.Mail.From.Domain.toList == (⟨#[]⟩ : ByteArray).toList) && true)))) (cond (((q.Mail.To.length : Int) == 0)) (cond (((q.Mail.Body.length : Int) == 0)) (cond ((!q.Mail.Quiet)) (cond ((q.Mail.Helo.toList == (⟨#[]⟩ : ByteArray).toList)) (some (.inl (q.Mail.At == 0))) (some (.inl false))) (some (.inl false))) (some (.inl false))) (some (.inl false))) (some (.inl false))) := by
  iterate 6 (first | exact pl _ | refine tc ?_ (pl _))
 obtain ⟨b,hb⟩ := hp
 refine bndL hb (bndL (s := false) ?_ rfl)
 cases b
 ·rfl
 refine cnd_t rfl (cf fun k0 => cf fun k1 => cf fun k2 => cf fun k3 => cf fun k4 => cf fun k5 => inl_of ?_)
 have e1 : q.Id = 0 := beq_iff_eq.1 k1
 have e2 : q.Ids = [] := List.eq_nil_of_length_eq_zero (by have : (q.Ids.length : Int) = 0 := beq_iff_eq.1 k2; omega)
 have e3 : q.Origin = 0 := beq_iff_eq.1 k3
 have e5 : q.Offset = 0 := beq_iff_eq.1 k5
 rcases h with h | h | h | h | h
 ·exact absurd e1 h
 ·exact absurd e2 h
 ·exact absurd e3 h
 ·exact absurd e5 h
 ·refine beq_eq_false_iff_ne.2 fun h0 => h (List.eq_nil_of_length_eq_zero (by omega))
theorem rest_id (r : T_Rec) : ∃ q,spool_rest_sh r = some q ∧ (r.Kind ≠ 1 → r.Kind ≠ 4 → q.Id = r.Id) ∧ (r.Kind ≠ 2 → q.Ids = r.Ids) ∧ (r.Kind ≠ 1 → q.Origin = r.Origin) ∧ (r.Kind ≠ 5 → q.Offset = r.Offset ∧ q.Data = r.Data) := by
 unfold spool_rest_sh
 by_cases k1 : r.Kind = 1
 ·exact ⟨_,bndL (bndL (cnd_t (beq_iff_eq.2 k1) rfl) rfl) rfl,fun h => absurd k1 h,fun _ => rfl,fun h => absurd k1 h,fun _ => ⟨rfl,rfl⟩⟩
 have n1 := beq_eq_false_iff_ne.2 k1
 by_cases k2 : r.Kind = 2
 ·exact ⟨_,bndL (bndL (cnd_f n1 (cnd_t (beq_iff_eq.2 k2) rfl)) rfl) rfl,fun _ _ => rfl,fun h => absurd k2 h,fun _ => rfl,fun _ => ⟨rfl,rfl⟩⟩
 have n2 := beq_eq_false_iff_ne.2 k2
 by_cases k3 : r.Kind = 3
 ·exact ⟨_,bndL (bndL (cnd_f n1 (cnd_f n2 (bndL (s := true) (cnd_t (beq_iff_eq.2 k3) (inl_of (beq_iff_eq.2 k3))) (cnd_t rfl rfl)))) rfl) rfl,fun _ _ => rfl,fun _ => rfl,fun _ => rfl,fun _ => ⟨rfl,rfl⟩⟩
 have n3 := beq_eq_false_iff_ne.2 k3
 by_cases k6 : r.Kind = 6
 ·exact ⟨_,bndL (bndL (cnd_f n1 (cnd_f n2 (bndL (s := true) (cnd_f n3 (inl_of (beq_iff_eq.2 k6))) (cnd_t rfl rfl)))) rfl) rfl,fun _ _ => rfl,fun _ => rfl,fun _ => rfl,fun _ => ⟨rfl,rfl⟩⟩
 have n6 := beq_eq_false_iff_ne.2 k6
 by_cases k4 : r.Kind = 4
 ·exact ⟨_,bndL (bndL (cnd_f n1 (cnd_f n2 (bndL (s := false) (cnd_f n3 (inl_of n6)) (cnd_f rfl (cnd_t (beq_iff_eq.2 k4) rfl))))) rfl) rfl,fun _ h => absurd k4 h,fun _ => rfl,fun _ => rfl,fun _ => ⟨rfl,rfl⟩⟩
 have n4 := beq_eq_false_iff_ne.2 k4
 by_cases k5 : r.Kind = 5
 ·exact ⟨_,bndL (bndL (cnd_f n1 (cnd_f n2 (bndL (s := false) (cnd_f n3 (inl_of n6)) (cnd_f rfl (cnd_f n4 (cnd_t (beq_iff_eq.2 k5) rfl)))))) rfl) rfl,fun _ _ => rfl,fun _ => rfl,fun _ => rfl,fun h => absurd k5 h⟩
 have n5 := beq_eq_false_iff_ne.2 k5
 exact ⟨_,bndL (bndL (cnd_f n1 (cnd_f n2 (bndL (s := false) (cnd_f n3 (inl_of n6)) (cnd_f rfl (cnd_f n4 (cnd_f n5 rfl)))))) rfl) rfl,fun _ _ => rfl,fun _ => rfl,fun _ => rfl,fun _ => ⟨rfl,rfl⟩⟩
theorem er_no {r : T_Rec} (h : (r.Kind ≠ 1 ∧ r.Kind ≠ 4 ∧ r.Id ≠ 0) ∨ (r.Kind ≠ 2 ∧ r.Ids ≠ []) ∨ (r.Kind ≠ 1 ∧ r.Origin ≠ 0) ∨ (r.Kind ≠ 5 ∧ r.Offset ≠ 0) ∨ (r.Kind ≠ 5 ∧ r.Data ≠ [])) : er r = false := by
 obtain ⟨q,hq,h1,h2,h3,h4⟩ := rest_id r
 have he : spool_empty q = some false := by
  refine empty_no ?_
  rcases h with ⟨a,b,c⟩ | ⟨a,c⟩ | ⟨a,c⟩ | ⟨a,c⟩ | ⟨a,c⟩
  ·exact .inl (by rw [h1 a b]; exact c)
  ·exact .inr (.inl (by rw [h2 a]; exact c))
  ·exact .inr (.inr (.inl (by rw [h3 a]; exact c)))
  ·exact .inr (.inr (.inr (.inl (by rw [(h4 a).1]; exact c))))
  ·exact .inr (.inr (.inr (.inr (by rw [(h4 a).2]; exact c))))
 unfold er erO
 rw [hq]
 show (spool_empty q).getD false = false
 rw [he]
 rfl
def zR : T_Rec := ⟨0,⟨⟨false,⟨#[]⟩,⟨#[]⟩⟩,[],[],false,⟨#[]⟩,0⟩,0,[],0,0,0,[]⟩
theorem empty_yes : spool_empty zR = some true := by kernel_rfl
theorem er_of {r : T_Rec} (h : spool_rest_sh r = some zR) : er r = true := by
 unfold er erO
 rw [h]
 show (spool_empty zR).getD false = true
 rw [empty_yes]
 rfl
theorem er_clean {r : T_Rec} (h : cleanR r = r) (hk : r.Kind = 1 ∨ r.Kind = 2 ∨ r.Kind = 3 ∨ r.Kind = 4 ∨ r.Kind = 5 ∨ r.Kind = 6) : er r = true := by
 refine er_of ?_
 obtain ⟨k,m,id,ids,og,nu,of_,da⟩ := r
 dsimp only at hk
 unfold cleanR at h
 dsimp only at h
 unfold spool_rest_sh
 rcases hk with rfl | rfl | rfl | rfl | rfl | rfl
 ·rw [if_pos rfl] at h; cases h
  exact bndL (bndL (cnd_t rfl rfl) rfl) rfl
 ·rw [if_neg (by omega),if_pos rfl] at h; cases h
  exact bndL (bndL (cnd_f rfl (cnd_t rfl rfl)) rfl) rfl
 ·rw [if_neg (by omega),if_neg (by omega),if_pos rfl] at h; cases h
  exact bndL (bndL (cnd_f rfl (cnd_f rfl (bndL (s := true) (cnd_t rfl rfl) (cnd_t rfl rfl)))) rfl) rfl
 ·rw [if_neg (by omega),if_neg (by omega),if_neg (by omega),if_pos rfl] at h; cases h
  exact bndL (bndL (cnd_f rfl (cnd_f rfl (bndL (s := false) (cnd_f rfl rfl) (cnd_f rfl (cnd_t rfl rfl))))) rfl) rfl
 ·rw [if_neg (by omega),if_neg (by omega),if_neg (by omega),if_neg (by omega),if_pos rfl] at h; cases h
  exact bndL (bndL (cnd_f rfl (cnd_f rfl (bndL (s := false) (cnd_f rfl rfl) (cnd_f rfl (cnd_f rfl (cnd_t rfl rfl)))))) rfl) rfl
 ·rw [if_neg (by omega),if_neg (by omega),if_neg (by omega),if_neg (by omega),if_neg (by omega),if_pos rfl] at h; cases h
  exact bndL (bndL (cnd_f rfl (cnd_f rfl (bndL (s := true) (cnd_f rfl rfl) (cnd_t rfl rfl)))) rfl) rfl
theorem mailV_mv {m : T_Mail} (h : LM m) (hb : byt m.Body) (hv : mailV m = true) : mv m = true := by
 obtain ⟨hs1,hs2,hs3,hs4⟩ := lm_small h
 unfold mailV at hv
 rw [Bool.and_eq_true,Bool.and_eq_true,Bool.and_eq_true,Bool.and_eq_true] at hv
 obtain ⟨h1,h2,h3,h4,h5⟩ := hv
 have h2 := of_decide_eq_true h2
 have h4 := of_decide_eq_true h4
 have h5 := of_decide_eq_true h5
 have he : envelope_Valid m = some true := by
  unfold envelope_Valid
  refine bndL (s := false) (bnd (check_eq _ hs1) (cnd_f (by rw [h1]; rfl) (cnd_f (decide_eq_false (by omega)) (inl_of (decide_eq_false (by omega)))))) (cnd_f rfl (bndL (s := ()) (loop_from (f := evS m) (fun i => ((i : Nat) : Int)) m.To.length BIG rfl (by simp only [BIG]; omega) (fun i hi => ?_) (cnd_f (decide_eq_false (by omega)) rfl)) rfl))
  have hp := h5 _ (List.getElem_mem hi)
  exact cnd_t (decide_eq_true (by omega)) (bnd (ixO_of hi) (bnd (by simp [getO,hi] : getO m.To i = some m.To[i]) (bndL (s := false) (bnd (check_eq _ (hs2 _ (List.getElem_mem hi))) (cnd_f (by rw [hp.1]; rfl) (inl_of hp.2))) (cnd_f rfl (bnd (congrArg some (wrap_succ (n := i) (by omega))) rfl)))))
 have hd : dots_Check m.Body = some 0 := by
  rcases body_any m.Body hb (by omega) with h | ⟨_,ls,a,b,c⟩
  ·unfold bodyV at h3; rw [h] at h3; cases h3
  ·rw [c]; exact check_ok a b (by rw [← jn_len,← c]; omega)
 have : spool_validMail m = some true := by
  unfold spool_validMail
  exact bndL (s := true) (bnd he (cnd_t rfl (bnd hd (cnd_t rfl (cnd_t (decide_eq_true h4.1) (inl_of (decide_eq_true h4.2))))))) rfl
 simp only [mv,this,Option.getD_some]
theorem okR_S {s : T_Spool} {r : T_Rec} (hm : LM r.Mail) (hb : byt r.Mail.Body) (h : okR s r = true) : okS s r = true := by
 unfold okR at h
 rw [Bool.and_eq_true] at h
 have hc := of_decide_eq_true h.1
 have hx := h.2
 unfold okS
 by_cases k1 : r.Kind = 1
 ·rw [if_pos k1] at hx ⊢
  rw [Bool.and_eq_true] at hx
  rw [er_clean hc (.inl k1),hx.1,mailV_mv hm hb hx.2]; rfl
 ·rw [if_neg k1] at hx ⊢
  have hk : r.Kind = 1 ∨ r.Kind = 2 ∨ r.Kind = 3 ∨ r.Kind = 4 ∨ r.Kind = 5 ∨ r.Kind = 6 := by
   by_cases k2 : r.Kind = 2
   ·exact .inr (.inl k2)
   by_cases k3 : r.Kind = 3
   ·exact .inr (.inr (.inl k3))
   by_cases k4 : r.Kind = 4
   ·exact .inr (.inr (.inr (.inl k4)))
   by_cases k5 : r.Kind = 5
   ·exact .inr (.inr (.inr (.inr (.inl k5))))
   by_cases k6 : r.Kind = 6
   ·exact .inr (.inr (.inr (.inr (.inr k6))))
   rw [if_neg k2,if_neg k3,if_neg k4,if_neg k5,if_neg k6] at hx
   cases hx
  rw [er_clean hc hk,Bool.true_and]
  exact hx
def rfS (l : List T_Rec) : (((List T_Item) × Int × (List Int) × (List Int) × Int × (List Int) × Int)) → Option (((List T_Item) × Int × (List Int) × (List Int) × Int × (List Int) × Int) ⊕ (((List T_Item) × Int × (List Int) × (List Int) × Int × (List Int)) ⊕ (T_Spool × Int))) := (fun ((s17,s18,s19,s20,s21,s22,s23) : (List T_Item) × Int × (List Int) × (List Int) × Int × (List Int) × Int) =>
 cond ((decide (s23 < (l.length : Int))))
  ((ixO s23 l.length).bind fun v3 =>
  (getO l v3).bind fun v4 =>
  (wherryref18_Add (T_Spool.mk s17 s18 s19 s20 s21 s22) ((T_Rec.mk v4.Kind ((T_Mail.mk (T_Path.mk v4.Mail.From.Null v4.Mail.From.Local v4.Mail.From.Domain) v4.Mail.To v4.Mail.Body v4.Mail.Quiet v4.Mail.Helo v4.Mail.At)) v4.Id v4.Ids v4.Origin v4.Number v4.Offset v4.Data))).bind fun v5 =>
  cond ((v5.2 != 0))
   (some (.inr (.inr (((T_Spool.mk s17 s18 s19 s20 s21 s22),s23)))))
   ((some (IntKind.i64.wrap (s23 + 1))).bind fun v7 =>
   some (.inl (v5.1.Items,v5.1.Packs,v5.1.Sent,v5.1.Part,v5.1.Of,v5.1.Done,v7))))
  (some (.inr (.inl (s17,s18,s19,s20,s21,s22)))))
theorem rfold_loop (l : List T_Rec) (hr : ∀ r ∈ l,Rok r) (hl : l.length < 999999) : ∀ (d i : Nat) (s : T_Spool) (fuel : Nat),i + d = l.length → d < fuel → Inv i s → (∀ x ∈ s.Items,Stt x) →
  ∃ (s' : T_Spool) (k : Int) (n : Nat),bindS (S := ((List T_Item) × Int × (List Int) × (List Int) × Int × (List Int))) (A := (T_Spool × Int)) (loopF (rfS l) fuel (s.Items,s.Packs,s.Sent,s.Part,s.Of,s.Done,(i : Int))) (fun ((s27,s28,s29,s30,s31,s32) : (List T_Item) × Int × (List Int) × (List Int) × Int × (List Int)) =>
   some (((T_Spool.mk s27 s28 s29 s30 s31 s32),(l.length : Int)))) some = some (s',k) ∧ Inv n s' ∧ (∀ x ∈ s'.Items,Stt x)
 | d,i,s,0,_,hf,_,_ => absurd hf (Nat.not_lt_zero d)
 | 0,i,s,fuel + 1,hd,_,hs,ht => by
  exact ⟨s,_,i,bndL (loop_exit (cnd_f (decide_eq_false (by omega)) rfl)) rfl,hs,ht⟩
 | d + 1,i,s,fuel + 1,hd,hf,hs,ht => by
  have hi : i < l.length := by omega
  have hri := hr _ (List.getElem_mem hi)
  have hadd := radd_eq hs ht hri
  by_cases ho' : okR s l[i] = true
  ·have ho := okR_S hri.1.2.2 hri.2 ho'
   rw [if_pos ho'] at hadd
   obtain ⟨s',k,n,ih,h1,h2⟩ := rfold_loop l hr hl d (i + 1) (eff s l[i]) fuel (by omega) (by omega) (inv_eff (by omega) hs hri ho) (next_eff hs ht ho).stt
   refine ⟨s',k,n,?_,h1,h2⟩
   rw [← ih,loop_next]
   exact cnd_t (decide_eq_true (by omega)) (bnd (ixO_of hi) (bnd (by simp [getO,hi] : getO l i = some l[i]) (bnd hadd (cnd_f rfl (bnd (congrArg some (wrap_succ (n := i) (by omega))) rfl)))))
  ·rw [if_neg ho'] at hadd
   exact ⟨s,i,i,bndR (a := (s,(i : Int))) (loop_exit (cnd_t (decide_eq_true (by omega)) (bnd (ixO_of hi) (bnd (by simp [getO,hi] : getO l i = some l[i]) (bnd hadd (cnd_t rfl rfl)))))) rfl,hs,ht⟩
theorem rfold_eq (l : List T_Rec) (hr : ∀ r ∈ l,Rok r) (hl : l.length < 999999) : ∃ (s : T_Spool) (k : Int) (n : Nat),wherryref18_Fold l = some (s,k) ∧ Inv n s ∧ (∀ x ∈ s.Items,Stt x) := by
 unfold wherryref18_Fold
 obtain ⟨s,k,n,h,h1,h2⟩ := rfold_loop l hr hl l.length 0 newSp BIG (by omega) (by simp only [BIG]; omega) inv_new (by intro x hx; cases hx)
 exact ⟨s,k,n,bnd rfl h,h1,h2⟩
theorem no_refl : wherrykeep_Spool (T_Spool.mk [] 0 [] [] 0 []) (T_Spool.mk [] 0 [] [] 0 []) = some true := by kernel_rfl
theorem un_fin {n : Nat} {s : T_Spool} {r x : T_Rec} (hs : Inv n s) (hr : Rok r) (hx : Rok x) (ho : okS s r = true) (he : er x = false) :
  ((spool_Add s x).bind fun v90 => (spool_Add s r).bind fun v91 => bindS (S := Bool) (A := Bool)
        (cond ((v90.2 == 5))
         ((wherrykeep_Spool (T_Spool.mk v90.1.Items v90.1.Packs v90.1.Sent v90.1.Part v90.1.Of v90.1.Done) (T_Spool.mk [] 0 [] [] 0 [])).bind fun v92 =>
         cond (v92)
          (cond ((v91.2 == 0))
           ((wherrylaw19_wakes ).bind fun v93 =>
           some (.inl v93))
           (some (.inl false)))
          (some (.inl false)))
         (some (.inl false)))
        (fun (s94 : Bool) =>
         some (s94)) some) = some true := by
 have h1 := add_eq hs hx
 have hno : ¬ okS s x = true := by unfold okS; rw [he]; simp
 rw [if_neg hno] at h1
 have h2 := add_eq hs hr
 rw [if_pos ho] at h2
 exact bnd h1 (bnd h2 (bndL (s := true) (cnd_t rfl (bnd no_refl (cnd_t rfl (cnd_t rfl (bnd wakes19 rfl))))) rfl))
theorem spoolUnnamed_true (l : List T_Rec) (r : T_Rec) (how : Int) (hw : wzL 208 T_Rec.wz l) (hw1 : T_Rec.wz r) : wherrylaw19_SpoolUnnamed l r how = some true := by
 obtain ⟨b,hh,hb⟩ := heavy_rok l hw
 obtain ⟨b1,hh1,hb1⟩ := heavy_rok [r] ⟨by simp [reachBytes],fun x hx => by rw [List.mem_singleton.1 hx]; exact hw1⟩
 unfold wherrylaw19_SpoolUnnamed
 cases b
 case true => exact bndL (s := true) (bnd hh (cnd_t rfl rfl)) (cnd_t rfl rfl)
 cases b1
 case true => exact bndL (s := true) (bnd hh (cnd_f rfl (bnd hh1 rfl))) (cnd_t rfl rfl)
 obtain ⟨hl,hr⟩ := hb rfl
 have hrr : Rok r := (hb1 rfl).2 r (List.mem_singleton.2 rfl)
 obtain ⟨s,k,n,hf,hs,ht⟩ := rfold_eq l hr (by omega)
 have hadd := radd_eq hs ht hrr
 refine bndL (s := false) (bnd hh (cnd_f rfl (bnd hh1 rfl))) (cnd_f rfl (bnd hf ?_))
 by_cases hoR : okR s r = true
 case neg =>
  rw [if_neg hoR] at hadd
  exact bnd hadd (cnd_t rfl rfl)
 rw [if_pos hoR] at hadd
 have ho := okR_S hrr.1.2.2 hrr.2 hoR
 refine bnd hadd (cnd_f rfl (bnd (twin_rec hrr.1) ?_))
 obtain ⟨q,hq,hqr⟩ := spo_rem how 5 (by omega) (by omega)
 have e5 : IntKind.u64.wrap ((5 : Nat) : Int) = 5 := u64_wrap (by omega) (by omega)
 rw [e5] at hqr
 obtain ⟨⟨hd6,hi6,hm⟩,hby⟩ := hrr
 by_cases q0 : q = 0
 ·subst q0
  by_cases c1 : r.Kind = 1
  ·exact bndR (a := true) (bnd rfl (bnd hqr (bndR (a := .inr true) (cnd_t rfl (bndL (s := true) (cnd_t (beq_iff_eq.2 c1) rfl) (cnd_t rfl rfl))) rfl))) rfl
  by_cases c4 : r.Kind = 4
  ·exact bndR (a := true) (bnd rfl (bnd hqr (bndR (a := .inr true) (cnd_t rfl (bndL (s := true) (cnd_f (beq_eq_false_iff_ne.2 c1) (inl_of (beq_iff_eq.2 c4))) (cnd_t rfl rfl))) rfl))) rfl
  refine bndL (bnd rfl (bnd hqr (bndL (cnd_t rfl (bndL (s := false) (cnd_f (beq_eq_false_iff_ne.2 c1) (inl_of (beq_eq_false_iff_ne.2 c4))) (cnd_f rfl rfl))) rfl))) ?_
  exact un_fin hs ⟨⟨hd6,hi6,hm⟩,hby⟩ (x := ⟨r.Kind,r.Mail,1,r.Ids,r.Origin,r.Number,r.Offset,r.Data⟩) ⟨⟨hd6,hi6,hm⟩,hby⟩ ho (er_no (.inl ⟨c1,c4,by simp⟩))
 by_cases q1 : q = 1
 ·subst q1
  by_cases c : r.Kind = 2
  ·exact bndR (a := true) (bnd rfl (bnd hqr (bndR (a := .inr true) (cnd_f rfl (cnd_t rfl (cnd_t (beq_iff_eq.2 c) rfl))) rfl))) rfl
  refine bndL (bnd rfl (bnd hqr (bndL (cnd_f rfl (cnd_t rfl (cnd_f (beq_eq_false_iff_ne.2 c) rfl))) rfl))) ?_
  exact un_fin hs ⟨⟨hd6,hi6,hm⟩,hby⟩ (x := ⟨r.Kind,r.Mail,r.Id,[1],r.Origin,r.Number,r.Offset,r.Data⟩) ⟨⟨hd6,by simp,hm⟩,hby⟩ ho (er_no (.inr (.inl ⟨c,by simp⟩)))
 by_cases q2 : q = 2
 ·subst q2
  by_cases c : r.Kind = 5
  ·exact bndR (a := true) (bnd rfl (bnd hqr (bndR (a := .inr true) (cnd_f rfl (cnd_f rfl (cnd_t rfl (cnd_t (beq_iff_eq.2 c) rfl)))) rfl))) rfl
  refine bndL (bnd rfl (bnd hqr (bndL (cnd_f rfl (cnd_f rfl (cnd_t rfl (cnd_f (beq_eq_false_iff_ne.2 c) rfl)))) rfl))) ?_
  exact un_fin hs ⟨⟨hd6,hi6,hm⟩,hby⟩ (x := ⟨r.Kind,r.Mail,r.Id,r.Ids,r.Origin,r.Number,1,r.Data⟩) ⟨⟨hd6,hi6,hm⟩,hby⟩ ho (er_no (.inr (.inr (.inr (.inl ⟨c,by simp⟩)))))
 by_cases q3 : q = 3
 ·subst q3
  by_cases c : r.Kind = 5
  ·exact bndR (a := true) (bnd rfl (bnd hqr (bndR (a := .inr true) (cnd_f rfl (cnd_f rfl (cnd_f rfl (cnd_t rfl (cnd_t (beq_iff_eq.2 c) rfl))))) rfl))) rfl
  refine bndL (bnd rfl (bnd hqr (bndL (cnd_f rfl (cnd_f rfl (cnd_f rfl (cnd_t rfl (cnd_f (beq_eq_false_iff_ne.2 c) rfl))))) rfl))) ?_
  exact un_fin hs ⟨⟨hd6,hi6,hm⟩,hby⟩ (x := ⟨r.Kind,r.Mail,r.Id,r.Ids,r.Origin,r.Number,r.Offset,[0]⟩) ⟨⟨by simp,hi6,hm⟩,hby⟩ ho (er_no (.inr (.inr (.inr (.inr ⟨c,by simp⟩)))))
 obtain rfl : q = 4 := by omega
 by_cases c : r.Kind = 1
 ·exact bndR (a := true) (bnd rfl (bnd hqr (bndR (a := .inr true) (cnd_f rfl (cnd_f rfl (cnd_f rfl (cnd_f rfl (cnd_t (beq_iff_eq.2 c) rfl))))) rfl))) rfl
 refine bndL (bnd rfl (bnd hqr (bndL (cnd_f rfl (cnd_f rfl (cnd_f rfl (cnd_f rfl (cnd_f (beq_eq_false_iff_ne.2 c) rfl))))) rfl))) ?_
 exact un_fin hs ⟨⟨hd6,hi6,hm⟩,hby⟩ (x := ⟨r.Kind,r.Mail,r.Id,r.Ids,1,r.Number,r.Offset,r.Data⟩) ⟨⟨hd6,hi6,hm⟩,hby⟩ ho (er_no (.inr (.inr (.inl ⟨c,by simp⟩))))
end Go.Abs.Sh
