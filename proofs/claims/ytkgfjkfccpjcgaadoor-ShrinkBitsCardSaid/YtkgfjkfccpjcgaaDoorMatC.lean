import Derived.Test.YtkgfjkfccpjcgaaDoorMatB
namespace Go.Abs.Sh
set_option linter.unusedVariables false
set_option linter.unusedSimpArgs false
set_option maxRecDepth 10000
def beS (at_ : Int) : (((List Int) × (List ((List Int) × Int)) × (List Int) × Int × Int × Int × Int)) → Option (((List Int) × (List ((List Int) × Int)) × (List Int) × Int × Int × Int × Int) ⊕ (((List Int) × (List ((List Int) × Int)) × (List Int) × Int × Int × Int) ⊕ (((List Int) × (List ((List Int) × Int)) × (List Int) × Int × Int × Int) ⊕ (Int × Int × T_match_index)))) := (fun ((s159,s160,s161,s162,s163,s164,s165) : (List Int) × (List ((List Int) × Int)) × (List Int) × Int × Int × Int × Int) =>
   bindS (S := Bool) (A := (((List Int) × (List ((List Int) × Int)) × (List Int) × Int × Int × Int × Int) ⊕ (((List Int) × (List ((List Int) × Int)) × (List Int) × Int × Int × Int) ⊕ (((List Int) × (List ((List Int) × Int)) × (List Int) × Int × Int × Int) ⊕ (Int × Int × T_match_index)))))
    (cond ((decide (s162 ≤ s165)))
     ((some (IntKind.i64.wrap (at_ - s165))).bind fun v8 =>
     some (.inl ((decide (v8 ≤ 2048)))))
     (some (.inl false)))
    (fun (s195 : Bool) =>
     cond (s195)
      (bindS (S := Int × Int × (List Int) × (List ((List Int) × Int)) × (List Int) × Int) (A := (((List Int) × (List ((List Int) × Int)) × (List Int) × Int × Int × Int × Int) ⊕ (((List Int) × (List ((List Int) × Int)) × (List Int) × Int × Int × Int) ⊕ (((List Int) × (List ((List Int) × Int)) × (List Int) × Int × Int × Int) ⊕ (Int × Int × T_match_index)))))
       ((match_index_common (T_match_index.mk s159 s160 s161 s162) s165 at_).bind fun v14 =>
       cond ((decide (s163 < v14.1)))
        ((some (IntKind.i64.wrap (at_ - s165))).bind fun v16 =>
        some (.inl (v14.1,v16,v14.2.b,v14.2.last,v14.2.back,v14.2.from_)))
        (some (.inl (s163,s164,v14.2.b,v14.2.last,v14.2.back,v14.2.from_))))
       (fun ((s201,s202,s203,s204,s205,s206) : Int × Int × (List Int) × (List ((List Int) × Int)) × (List Int) × Int) =>
        cond ((s201 == 258))
         (some (.inr (.inl (s203,s204,s205,s206,s201,s202))))
         ((some (IntKind.i64.wrap (s165 - s206))).bind fun v28 =>
         (ixO v28 s205.length).bind fun v29 =>
         (getO s205 v29).bind fun v30 =>
         (some (IntKind.i64.wrap (v30 - 1))).bind fun v31 =>
         some (.inl (s203,s204,s205,s206,s201,s202,v31)))) some)
      (some (.inr (.inl (s159,s160,s161,s162,s163,s164))))) some)
theorem best_loop {b : List Int} {f at_ : Nat} {x : T_match_index} (h : Ixd b f at_ x) (hl : b.length ≤ 5000) (h3 : at_ + 3 ≤ b.length) (hf : f ≤ at_ - min at_ 2048) :
  ∀ (q fuel : Nat),q ≤ at_ → at_ - q ≤ min at_ 2048 → q < fuel → (clp (bestN b at_ (at_ - q))).1 < 258 →
   loopF (beS (at_ : Int)) fuel (b,x.last,x.back,(f : Int),(((clp (bestN b at_ (at_ - q))).1 : Nat) : Int),(((clp (bestN b at_ (at_ - q))).2 : Nat) : Int),((prv b f (key b at_) q : Nat) : Int) - 1) =
    some (.inl (b,x.last,x.back,(f : Int),(((bestS b at_).1 : Nat) : Int),(((bestS b at_).2 : Nat) : Int))) := by
 intro q
 induction q using Nat.strongRecOn with
 | _ q ih =>
 intro fuel hq hq2 hfu h258
 obtain ⟨fu,rfl⟩ : ∃ fu,fuel = fu + 1 := ⟨fuel - 1,by omega⟩
 obtain ⟨s,hs⟩ : ∃ s,s = clp (bestN b at_ (at_ - q)) := ⟨_,rfl⟩
 have hnear : ∀ o,at_ - q < o → o ≤ min at_ 2048 → prv b f (key b at_) q ≤ at_ - o → cmL b (at_ - o) at_ < 3 := by
  intro o h1 h2 h4
  have hno := prv_no b f (key b at_) q (at_ - o) h4 (by omega) (by omega)
  apply Classical.byContradiction
  intro hc
  exact hno ((cm_key (by omega) h3).2 (by omega))
 have hend : (∀ o,at_ - q < o → o ≤ min at_ 2048 → prv b f (key b at_) q ≤ at_ - o) → s = bestS b at_ := by
  intro hall
  have := best_skip (b := b) (at_ := at_) (min at_ 2048 - (at_ - q)) (at_ - q) fun o h1 h2 => hnear o h1 (by omega) (hall o h1 (by omega))
  rw [show at_ - q + (min at_ 2048 - (at_ - q)) = min at_ 2048 by omega] at this
  unfold bestS
  rw [this,hs]
 rw [← hs] at h258 ⊢
 cases hc : prv b f (key b at_) q with
 | zero =>
  have := hend fun o h1 h2 => by rw [hc]; omega
  rw [this]
  exact loop_exit (bndL (s := false) (cnd_f (decide_eq_false (by omega)) rfl) (cnd_f rfl rfl))
 | succ r =>
  obtain ⟨hr1,hr2,hr3⟩ := prv_is b f (key b at_) q r hc
  have hp : ((r + 1 : Nat) : Int) - 1 = (r : Int) := by omega
  rw [hp]
  have hw : IntKind.i64.wrap ((at_ : Int) - (r : Int)) = ((at_ - r : Nat) : Int) := by rw [wrap_i64 (by omega) (by omega)]; omega
  have hd1 : decide ((f : Int) ≤ (r : Int)) = true := decide_eq_true (by omega)
  by_cases h20 : at_ - r ≤ 2048
  case neg =>
   have := hend fun o h1 h2 => by rw [hc]; omega
   rw [this]
   exact loop_exit (bndL (s := false) (cnd_t hd1 (bnd (congrArg some hw) (by rw [decide_eq_false (by omega)]))) (cnd_f rfl rfl))
  have hcm := common_eq (x := T_match_index.mk b x.last x.back (f : Int)) rfl hl (by omega : r < at_) h3 hr3
  have hm3 := (cm_key (by omega) h3).1 hr3
  have hm8 := (cm_le b (p := r) (at_ := at_)).1
  have hsk := best_skip (b := b) (at_ := at_) (at_ - r - 1 - (at_ - q)) (at_ - q) fun o h1 h2 => hnear o h1 (by omega) (by rw [hc]; omega)
  rw [show at_ - q + (at_ - r - 1 - (at_ - q)) = at_ - r - 1 by omega,← hs] at hsk
  have hup : clp (bestN b at_ (at_ - r)) = if s.1 < cmL b r at_ then (cmL b r at_,at_ - r) else s := by
   have e : bestN b at_ (at_ - r) = upd1 (bestN b at_ (at_ - r - 1)) (at_ - r) (cmL b r at_) := by
    have e1 : at_ - r = (at_ - r - 1) + 1 := by omega
    have e2 : at_ - (at_ - r - 1 + 1) = r := by omega
    conv => lhs; rw [e1]
    show upd1 (bestN b at_ (at_ - r - 1)) (at_ - r - 1 + 1) (cmL b (at_ - (at_ - r - 1 + 1)) at_) = _
    rw [e2,← e1]
   rw [e,clp_high hm3,hsk]
  have hfirst : (cond ((decide ((f : Int) ≤ (r : Int)))) ((some (IntKind.i64.wrap ((at_ : Int) - (r : Int)))).bind fun v8 => some (.inl ((decide (v8 ≤ 2048))))) (some (.inl false)) : Option (Bool ⊕ (((List Int) × (List ((List Int) × Int)) × (List Int) × Int × Int × Int × Int) ⊕ (((List Int) × (List ((List Int) × Int)) × (List Int) × Int × Int × Int) ⊕ (((List Int) × (List ((List Int) × Int)) × (List Int) × Int × Int × Int) ⊕ (Int × Int × T_match_index)))))) = some (.inl true) :=
   cnd_t hd1 (bnd (congrArg some hw) (by rw [decide_eq_true (by omega)]))
  obtain ⟨u,hu⟩ : ∃ u,u = clp (bestN b at_ (at_ - r)) := ⟨_,rfl⟩
  have hsecond : ((match_index_common (T_match_index.mk b x.last x.back (f : Int)) (r : Int) (at_ : Int)).bind fun v14 =>
         cond ((decide (((s.1 : Nat) : Int) < v14.1)))
          ((some (IntKind.i64.wrap ((at_ : Int) - (r : Int)))).bind fun v16 =>
          some (.inl (v14.1,v16,v14.2.b,v14.2.last,v14.2.back,v14.2.from_)))
          (some (.inl (((s.1 : Nat) : Int),((s.2 : Nat) : Int),v14.2.b,v14.2.last,v14.2.back,v14.2.from_))) : Option ((Int × Int × (List Int) × (List ((List Int) × Int)) × (List Int) × Int) ⊕ (((List Int) × (List ((List Int) × Int)) × (List Int) × Int × Int × Int × Int) ⊕ (((List Int) × (List ((List Int) × Int)) × (List Int) × Int × Int × Int) ⊕ (((List Int) × (List ((List Int) × Int)) × (List Int) × Int × Int × Int) ⊕ (Int × Int × T_match_index)))))) = some (.inl (((u.1 : Nat) : Int),((u.2 : Nat) : Int),b,x.last,x.back,(f : Int))) := by
   refine bnd hcm ?_
   by_cases hlt : s.1 < cmL b r at_
   ·rw [if_pos hlt] at hup
    rw [hu,hup]
    exact cnd_t (decide_eq_true (by show ((s.1 : Nat) : Int) < ((cmL b r at_ : Nat) : Int); omega)) (bnd (congrArg some hw) rfl)
   ·rw [if_neg hlt] at hup
    rw [hu,hup]
    exact cnd_f (decide_eq_false (by show ¬ ((s.1 : Nat) : Int) < ((cmL b r at_ : Nat) : Int); omega)) rfl
  by_cases hfull : u.1 = 258
  ·have hb : (bestN b at_ (at_ - r)).1 = 258 := by
    rw [hu] at hfull
    unfold clp at hfull
    split at hfull
    ·simp at hfull
    ·exact hfull
   have hbf := best_full (min at_ 2048 - (at_ - r)) (at_ - r) hb
   rw [show at_ - r + (min at_ 2048 - (at_ - r)) = min at_ 2048 by omega] at hbf
   have hS : u = bestS b at_ := by rw [hu]; unfold bestS; rw [hbf]
   rw [← hS]
   exact loop_exit (bndL hfirst (cnd_t rfl (bndL hsecond (cnd_t (beq_iff_eq.2 (by omega)) rfl))))
  ·have hlt258 : u.1 < 258 := by
    have : u.1 ≤ 258 := by
     rw [hu]
     unfold clp
     split
     ·simp
     ·exact (bestN_le b at_ _).1
    omega
   have hbk := h.bk r hr1 (by omega) (by omega)
   rw [hr3] at hbk
   have hbl := h.bl
   have hpl := prv_le b f (key b at_) r
   have hgo : getO x.back (r - f) = some ((prv b f (key b at_) r : Nat) : Int) := hbk
   have hix : ixO ((r - f : Nat) : Int) x.back.length = some (r - f) := ixO_of (by rw [hbl]; omega)
   have hw2 : IntKind.i64.wrap ((r : Int) - (f : Int)) = ((r - f : Nat) : Int) := by rw [wrap_i64 (by omega) (by omega)]; omega
   have hw3 : IntKind.i64.wrap (((prv b f (key b at_) r : Nat) : Int) - 1) = ((prv b f (key b at_) r : Nat) : Int) - 1 := wrap_i64 (by omega) (by omega)
   refine (loop_next (bndL hfirst (cnd_t rfl (bndL hsecond (cnd_f (beq_eq_false_iff_ne.2 (by omega)) (bnd (congrArg some hw2) (bnd hix (bnd hgo (bnd (congrArg some hw3) rfl))))))))).trans ?_
   have := ih r hr2 fu (by omega) (by omega) (by omega) (by rw [← hu]; exact hlt258)
   rw [← hu] at this
   exact this
theorem best_eq {b : List Int} {f at_ : Nat} {x : T_match_index} (h : Ixd b f at_ x) (hb : ∀ n ∈ b,0 ≤ n ∧ n < 256) (hl : b.length ≤ 5000) (ha : at_ < b.length) (hf : f ≤ at_ - min at_ 2048) :
  match_index_best x (at_ : Int) = some (((bestS b at_).1 : Int),((bestS b at_).2 : Int),x) := by
 have hs := start_eq h hl (Nat.le_of_lt ha)
 unfold match_index_best
 by_cases h3 : b.length < at_ + 3
 ·rw [if_pos h3] at hs
  have h0 : bestS b at_ = (0,0) := by
   unfold bestS clp
   rw [if_pos (by have := (bestN_le b at_ (min at_ 2048)).2.1; omega)]
  rw [h0]
  exact bnd hs (bnd (ln_of rfl) (bnd (ln_of rfl) (cnd_t rfl rfl)))
 ·rw [if_neg h3] at hs
  have hk3 : (key b at_).length = 3 := by rw [key_len]; omega
  have hla := h.la _ hk3
  have hg : mgetO 3 x.last (key b at_) = some ((prv b f (key b at_) at_ : Nat) : Int) := by
   unfold mgetO
   rw [if_pos ⟨hk3,key_byB hb at_⟩,hla]
  have hpl := prv_le b f (key b at_) at_
  have hw3 : IntKind.i64.wrap (((prv b f (key b at_) at_ : Nat) : Int) - 1) = ((prv b f (key b at_) at_ : Nat) : Int) - 1 := wrap_i64 (by omega) (by omega)
  have hlp := best_loop h hl (by omega) hf at_ BIG (Nat.le_refl _) (by omega) (by simp only [BIG]; omega) (by rw [Nat.sub_self]; show (clp (0,0)).1 < 258; decide)
  rw [Nat.sub_self] at hlp
  have hxb := h.hb
  have hxf := h.hf
  refine bnd hs (bnd (ln_of rfl) (bnd (ln_of hk3) (cnd_f rfl (bndL (s := (b,x.last,x.back,(f : Int),(((bestS b at_).1 : Nat) : Int),(((bestS b at_).2 : Nat) : Int))) (bnd (ln_of hk3) (bnd hg (bnd (congrArg some hw3) (bndL (s := (b,x.last,x.back,(f : Int),(((bestS b at_).1 : Nat) : Int),(((bestS b at_).2 : Nat) : Int))) ?_ rfl)))) ?_))))
  ·show loopF (beS (at_ : Int)) BIG (x.b,x.last,x.back,x.from_,0,0,_) = _
   rw [hxb,hxf]
   exact hlp
  ·show some (_,_,T_match_index.mk b x.last x.back (f : Int)) = _
   rw [← hxf,← hxb]
end Go.Abs.Sh
