import Derived.Test.YtkgfjkfccpjcgaaDoorBitX
import Derived.Test.YtkgfjkfccpjcgaaDoorKeepM
import Derived.KernelRfl
namespace Go.Abs.Sh
set_option linter.unusedVariables false
set_option linter.unusedSimpArgs false
set_option maxRecDepth 10000
def fixL : List Int := List.replicate 144 8 ++ List.replicate 112 9 ++ List.replicate 24 7 ++ List.replicate 8 8
theorem in_eqs (n lo hi : Int) : wherryref01_in n lo hi = some (decide (lo ≤ n) && decide (n ≤ hi)) := by
 unfold wherryref01_in
 cases h : decide (lo ≤ n) <;> rfl
theorem all_of {f : Nat → Bool} {n : Nat} (h : (List.range n).all f = true) : ∀ k,k < n → f k = true := fun k hk => List.all_eq_true.1 h k (List.mem_range.2 hk)
def findS (s : T_sym_scale) (n : Int) : ((Int)) → Option ((Int) ⊕ ((Unit) ⊕ (Int × Int × Int))) := (fun (s9 : Int) =>
 (sym_scale_symbol s s9).bind fun v1 =>
 (some (IntKind.i64.wrap (n - v1.1))).bind fun v2 =>
 (shlO .i64 1 v1.2).bind fun v3 =>
 cond ((decide (v2 < v3)))
  ((some (IntKind.i64.wrap (n - v1.1))).bind fun v5 =>
  some (.inr (.inr ((s9,v1.2,v5)))))
  ((some (IntKind.i64.wrap (s9 + 1))).bind fun v6 =>
  some (.inl v6)))
def rdistS (n : Int) : ((Int)) → Option ((Int) ⊕ ((Unit) ⊕ (Int × Int × Int × Int))) := (fun (s11 : Int) =>
  cond ((decide (0 < s11)))
   ((wherryref01_DistOf s11).bind fun v4 =>
   cond ((decide (v4.1 ≤ n)))
    ((some (IntKind.i64.wrap (n - v4.1))).bind fun v6 =>
    some (.inr (.inr ((s11,v4.2.1,v6,0)))))
    ((some (IntKind.i64.wrap (s11 - 1))).bind fun v7 =>
    some (.inl v7)))
   (some (.inr (.inl ()))))
def dE (s : Nat) : Nat := if s < 4 then 0 else (s - 2) / 2
def dL (s : Nat) : Nat := if s < 4 then s + 1 else 1 + (2 + s % 2) * 2 ^ ((s - 2) / 2)
theorem dist_up : ∀ s : Nat,s < 30 → decide (sym_scale_symbol (T_sym_scale.mk 1 4 2) (s : Int) = some ((dL s : Int),(dE s : Int))) = true := all_of (by kernel_rfl)
theorem dist_of : ∀ s : Nat,s < 30 → decide (wherryref01_DistOf (s : Int) = some ((dL s : Int),(dE s : Int),0)) = true := all_of (by kernel_rfl)
theorem dist_sep : ∀ t,t < 30 → ∀ s,s < t → dL s + 2 ^ dE s ≤ dL t := by decide
theorem dist_end : ∀ t,t < 29 → dL t + 2 ^ dE t = dL (t + 1) := by decide
theorem dist_e : ∀ t,t < 30 → dE t ≤ 13 ∧ dL t ≤ 24577 := by decide
theorem dist_find (n : Nat) (h1 : 1 ≤ n) (h2 : n ≤ 32768) : ∃ s,s < 30 ∧ dL s ≤ n ∧ n < dL s + 2 ^ dE s := by
 have key : ∀ k,k < 30 → (∃ s,s < 30 ∧ dL s ≤ n ∧ n < dL s + 2 ^ dE s) ∨ dL k ≤ n := by
  intro k
  induction k with
  | zero => intro _; exact .inr h1
  | succ k ih =>
   intro hk
   rcases ih (by omega) with h | h
   ·exact .inl h
   ·by_cases hlt : n < dL k + 2 ^ dE k
    ·exact .inl ⟨k,by omega,h,hlt⟩
    ·have := dist_end k (by omega)
     exact .inr (by omega)
 rcases key 29 (by omega) with h | h
 ·exact h
 ·have e : dL 29 + 2 ^ dE 29 = 32769 := by decide
  exact ⟨29,by omega,h,by omega⟩
theorem shl1_i64 : ∀ e : Nat,e < 20 → decide (shlO .i64 1 (e : Int) = some ((2 ^ e : Nat) : Int)) = true := by decide
theorem up_eq (n s0 : Nat) (hs : s0 < 30) (h1 : dL s0 ≤ n) (h2 : n < dL s0 + 2 ^ dE s0) (hn : n ≤ 32768) : ∀ (k fuel i : Nat),s0 - i = k → i ≤ s0 → k < fuel →
  loopF (findS (T_sym_scale.mk 1 4 2) (n : Int)) fuel (i : Int) = some (.inr ((s0 : Int),(dE s0 : Int),((n - dL s0 : Nat) : Int))) := by
 intro k
 induction k with
 | zero =>
  intro fuel i hk hi hf
  obtain ⟨f,rfl⟩ : ∃ f,fuel = f + 1 := ⟨fuel - 1,by omega⟩
  have : i = s0 := by omega
  subst this
  have e1 := of_decide_eq_true (dist_up i hs)
  have e2 := of_decide_eq_true (shl1_i64 (dE i) (by have := (dist_e i hs).1; omega))
  generalize 2 ^ dE i = p at *
  have w : IntKind.i64.wrap ((n : Int) - (dL i : Int)) = ((n - dL i : Nat) : Int) := by rw [wrap_i64 (by omega) (by omega)]; omega
  refine loop_exit ?_
  unfold findS
  exact bnd e1 (bnd (x := ((n - dL i : Nat) : Int)) (by rw [w]) (bnd e2 (cnd_t (by simp; omega) (bnd (x := ((n - dL i : Nat) : Int)) (by rw [w]) rfl))))
 | succ k ih =>
  intro fuel i hk hi hf
  obtain ⟨f,rfl⟩ : ∃ f,fuel = f + 1 := ⟨fuel - 1,by omega⟩
  have hi30 : i < 30 := by omega
  have e1 := of_decide_eq_true (dist_up i hi30)
  have e2 := of_decide_eq_true (shl1_i64 (dE i) (by have := (dist_e i hi30).1; omega))
  have hsep := dist_sep s0 hs i (by omega)
  generalize 2 ^ dE i = p at *
  have w : IntKind.i64.wrap ((n : Int) - (dL i : Int)) = ((n - dL i : Nat) : Int) := by rw [wrap_i64 (by omega) (by omega)]; omega
  have w1 : IntKind.i64.wrap ((i : Int) + 1) = ((i + 1 : Nat) : Int) := by rw [wrap_i64 (by omega) (by omega)]; simp
  refine (loop_next ?_).trans (ih f (i + 1) (by omega) (by omega) (by omega))
  unfold findS
  exact bnd e1 (bnd (x := ((n - dL i : Nat) : Int)) (by rw [w]) (bnd e2 (cnd_f (by simp; omega) (bnd (x := ((i + 1 : Nat) : Int)) (by rw [w1]) rfl))))
theorem down_eq (n s0 : Nat) (hs : s0 < 30) (h1 : dL s0 ≤ n) (h2 : n < dL s0 + 2 ^ dE s0) (hn : n ≤ 32768) : ∀ (k fuel i : Nat),i - s0 = k → s0 ≤ i → i < 30 → k < fuel →
  loopF (rdistS (n : Int)) fuel (i : Int) = some (if s0 = 0 then .inl () else .inr ((s0 : Int),(dE s0 : Int),((n - dL s0 : Nat) : Int),0)) := by
 intro k
 induction k with
 | zero =>
  intro fuel i hk hi h30 hf
  obtain ⟨f,rfl⟩ : ∃ f,fuel = f + 1 := ⟨fuel - 1,by omega⟩
  have : i = s0 := by omega
  subst this
  refine loop_exit ?_
  unfold rdistS
  by_cases h0 : i = 0
  ·subst h0; rfl
  ·rw [if_neg h0]
   have e1 := of_decide_eq_true (dist_of i hs)
   have w : IntKind.i64.wrap ((n : Int) - (dL i : Int)) = ((n - dL i : Nat) : Int) := by rw [wrap_i64 (by omega) (by omega)]; omega
   exact cnd_t (by simp; omega) (bnd e1 (cnd_t (by simp; omega) (bnd (x := ((n - dL i : Nat) : Int)) (by rw [w]) rfl)))
 | succ k ih =>
  intro fuel i hk hi h30 hf
  obtain ⟨f,rfl⟩ : ∃ f,fuel = f + 1 := ⟨fuel - 1,by omega⟩
  have e1 := of_decide_eq_true (dist_of i h30)
  have hsep := dist_sep i h30 s0 (by omega)
  have w1 : IntKind.i64.wrap ((i : Int) - 1) = ((i - 1 : Nat) : Int) := by rw [wrap_i64 (by omega) (by omega)]; omega
  refine (loop_next ?_).trans (ih f (i - 1) (by omega) (by omega) (by omega) (by omega))
  unfold rdistS
  exact cnd_t (by simp; omega) (bnd e1 (cnd_f (by simp; omega) (bnd (x := ((i - 1 : Nat) : Int)) (by rw [w1]) rfl)))
theorem dist_same (n : Int) : ∃ r,sym_Dist n = some r ∧ wherryref01_Dist n = some r ∧ (1 ≤ n ∧ n ≤ 32768 → ∃ s : Nat,s < 30 ∧ r.1 = (s : Int)) := by
 by_cases h : 1 ≤ n ∧ n ≤ 32768
 case neg =>
  refine ⟨(0,0,0,1),?_,?_,fun h' => absurd h' h⟩
  ·unfold sym_Dist
   refine bndL (s := true) ?_ (cnd_t rfl rfl)
   by_cases h1 : n < 1
   ·exact cnd_t (by simp [h1]) rfl
   ·exact cnd_f (by simp; omega) (by rw [decide_eq_true (by omega)])
  ·unfold wherryref01_Dist
   refine bnd (in_eqs _ _ _) (cnd_t ?_ rfl)
   by_cases h1 : 1 ≤ n
   ·rw [decide_eq_true h1,decide_eq_false (by omega)]; rfl
   ·rw [decide_eq_false h1]; rfl
 obtain ⟨N,hN⟩ : ∃ N : Nat,n = (N : Int) := ⟨n.toNat,by omega⟩
 subst hN
 obtain ⟨s,hs,h1,h2⟩ := dist_find N (by omega) (by omega)
 refine ⟨((s : Int),(dE s : Int),((N - dL s : Nat) : Int),0),?_,?_,fun _ => ⟨s,hs,rfl⟩⟩
 ·unfold sym_Dist
  refine bndL (s := false) (cnd_f (by simp; omega) (by rw [decide_eq_false (by omega)])) (cnd_f rfl (bnd rfl ?_))
  refine bnd (x := ((s : Int),(dE s : Int),((N - dL s : Nat) : Int))) ?_ rfl
  unfold sym_scale_find
  exact bndR (up_eq N s hs h1 h2 (by omega) s BIG 0 (by omega) (Nat.zero_le _) (by unfold BIG; omega)) rfl
 ·unfold wherryref01_Dist
  refine bnd (in_eqs _ _ _) (cnd_f ?_ ?_)
  ·rw [decide_eq_true h.1,decide_eq_true h.2]; rfl
  have hd := down_eq N s hs h1 h2 (by omega) (29 - s) BIG 29 (by omega) (by omega) (by omega) (by unfold BIG; omega)
  by_cases h0 : s = 0
  ·rw [if_pos h0] at hd
   subst h0
   have : N = 1 := by
    have e : dL 0 + 2 ^ dE 0 = 2 := by decide
    omega
   subst this
   exact bndL hd rfl
  ·rw [if_neg h0] at hd
   exact bndR hd rfl
def lenChk (k : Nat) : Bool := match sym_Len ((k : Int) + 3),wherryref01_Len ((k : Int) + 3) with
 | some a,some b => decide (a = b) && decide (257 ≤ a.1) && decide (a.1 ≤ 285)
 | _,_ => false
theorem lenChk_all : ∀ k,k < 256 → lenChk k = true := all_of (by kernel_rfl)
theorem len_same (n : Int) : ∃ r,sym_Len n = some r ∧ wherryref01_Len n = some r ∧ (3 ≤ n ∧ n ≤ 258 → ∃ s : Nat,s < 286 ∧ r.1 = (s : Int)) := by
 by_cases h : 3 ≤ n ∧ n ≤ 258
 case neg =>
  refine ⟨(0,0,0,1),?_,?_,fun h' => absurd h' h⟩
  ·unfold sym_Len
   refine bndL (s := true) ?_ (cnd_t rfl rfl)
   by_cases h1 : n < 3
   ·exact cnd_t (by simp [h1]) rfl
   ·exact cnd_f (by simp; omega) (by rw [decide_eq_true (by omega)])
  ·unfold wherryref01_Len
   refine bnd (in_eqs _ _ _) (cnd_t ?_ rfl)
   by_cases h1 : 3 ≤ n
   ·rw [decide_eq_true h1,decide_eq_false (by omega)]; rfl
   ·rw [decide_eq_false h1]; rfl
 have hk := lenChk_all (n - 3).toNat (by omega)
 have e : (((n - 3).toNat : Nat) : Int) + 3 = n := by omega
 unfold lenChk at hk
 rw [e] at hk
 cases h1 : sym_Len n with
 | none => rw [h1] at hk; cases hk
 | some a =>
  cases h2 : wherryref01_Len n with
  | none => rw [h1,h2] at hk; cases hk
  | some b =>
   rw [h1,h2] at hk
   simp only [Bool.and_eq_true,decide_eq_true_eq] at hk
   refine ⟨a,rfl,by rw [hk.1.1],fun _ => ⟨a.1.toNat,by omega,by omega⟩⟩
def chkS (l : List T_Tok) : ((Int × Int)) → Option ((Int × Int) ⊕ ((Int) ⊕ Int)) := (fun ((s115,s116) : Int × Int) =>
 cond ((decide (s116 < (l.length : Int))))
  (bindS (S := Int) (A := ((Int × Int) ⊕ ((Int) ⊕ Int)))
   ((ixO s116 l.length).bind fun v2 =>
   (getO l v2).bind fun v3 =>
   bindS (S := Int) (A := (Int ⊕ ((Int × Int) ⊕ ((Int) ⊕ Int))))
    (bindS (S := Bool) (A := (Int ⊕ (Int ⊕ ((Int × Int) ⊕ ((Int) ⊕ Int)))))
     (cond ((v3.Len == 0))
      (some (.inl (v3.Dist == 0)))
      (some (.inl false)))
     (fun (s220 : Bool) =>
      cond (s220)
       ((some (IntKind.i64.wrap (s115 + 1))).bind fun v9 =>
       some (.inl v9))
       (bindS (S := Bool) (A := (Int ⊕ (Int ⊕ ((Int × Int) ⊕ ((Int) ⊕ Int)))))
        ((match_validMatch v3).bind fun v10 =>
        cond (v10)
         (some (.inl ((decide (v3.Dist ≤ s115)))))
         (some (.inl false)))
        (fun (s225 : Bool) =>
         cond (s225)
          ((some (IntKind.i64.wrap (s115 + v3.Len))).bind fun v16 =>
          some (.inl v16))
          (some (.inr (.inr (.inr (.inr (1))))))) some)) some)
    (fun (s216 : Int) =>
     some (.inl s216)) some)
   (fun (s202 : Int) =>
    (some (IntKind.i64.wrap (s116 + 1))).bind fun v59 =>
    some (.inl (s202,v59))) some)
  (some (.inr (.inl s115))))
def rchkS (l : List T_Tok) : ((Int × Bool × Int)) → Option ((Int × Bool × Int) ⊕ ((Bool) ⊕ Int)) := (fun ((s78,s79,s80) : Int × Bool × Int) =>
 cond ((decide (s80 < (l.length : Int))))
  (bindS (S := Int) (A := ((Int × Bool × Int) ⊕ ((Bool) ⊕ Int)))
   (bindS (S := Bool) (A := (Int ⊕ ((Int × Bool × Int) ⊕ ((Bool) ⊕ Int))))
    ((ixO s80 l.length).bind fun v2 =>
    (getO l v2).bind fun v3 =>
    cond ((v3.Len == 0))
     ((ixO s80 l.length).bind fun v4 =>
     (getO l v4).bind fun v5 =>
     some (.inl (v5.Dist == 0)))
     (some (.inl false)))
    (fun (s132 : Bool) =>
     cond (s132)
      ((some (IntKind.i64.wrap (s78 + 1))).bind fun v11 =>
      some (.inl v11))
      (bindS (S := Bool) (A := (Int ⊕ ((Int × Bool × Int) ⊕ ((Bool) ⊕ Int))))
       ((ixO s80 l.length).bind fun v12 =>
       (getO l v12).bind fun v13 =>
       cond ((v13.Byte != 0))
        (some (.inl true))
        ((ixO s80 l.length).bind fun v14 =>
        (getO l v14).bind fun v15 =>
        (wherryref01_in v15.Len 3 258).bind fun v16 =>
        cond ((!v16))
         (some (.inl true))
         ((ixO s80 l.length).bind fun v17 =>
         (getO l v17).bind fun v18 =>
         (wherryref01_in v18.Dist 1 2048).bind fun v19 =>
         cond ((!v19))
          (some (.inl true))
          ((ixO s80 l.length).bind fun v20 =>
          (getO l v20).bind fun v21 =>
          some (.inl ((decide (s78 < v21.Dist))))))))
       (fun (s137 : Bool) =>
        cond (s137)
         (some (.inr (.inr (.inr (1)))))
         ((ixO s80 l.length).bind fun v27 =>
         (getO l v27).bind fun v28 =>
         (some (IntKind.i64.wrap (s78 + v28.Len))).bind fun v29 =>
         some (.inl v29))) some)) some)
   (fun (s128 : Int) =>
    bindS (S := Bool) (A := ((Int × Bool × Int) ⊕ ((Bool) ⊕ Int)))
     (cond (s79)
      (some (.inl true))
      (some (.inl ((decide (4096 < s128))))))
     (fun (s142 : Bool) =>
      (some (if 8192 < s128 then 8192 else s128)).bind fun v44 =>
      (some (IntKind.i64.wrap (s80 + 1))).bind fun v45 =>
      some (.inl (v44,s142,v45))) some) some)
  (some (.inr (.inl s79))))
def swtS (l : List T_Tok) : (((List Int) × (List Int) × Int)) → Option (((List Int) × (List Int) × Int) ⊕ (((List Int) × (List Int)) ⊕ ((List Int) × (List Int) × Int))) := (fun ((s46,s47,s48) : (List Int) × (List Int) × Int) =>
  cond ((decide (s48 < (l.length : Int))))
   (bindS (S := (List Int) × (List Int)) (A := (((List Int) × (List Int) × Int) ⊕ (((List Int) × (List Int)) ⊕ ((List Int) × (List Int) × Int))))
    ((ixO s48 l.length).bind fun v8 =>
    (getO l v8).bind fun v9 =>
    cond ((v9.Len == 0))
     ((ixO v9.Byte s46.length).bind fun v11 =>
     (getO s46 v11).bind fun v12 =>
     (some (IntKind.i64.wrap (v12 + 1))).bind fun v13 =>
     (ixO v9.Byte s46.length).bind fun v14 =>
     (some (s46.set v14 v13)).bind fun v15 =>
     some (.inl (v15,s47)))
     ((sym_Len v9.Len).bind fun v16 =>
     (sym_Dist v9.Dist).bind fun v17 =>
     (ixO v16.1 s46.length).bind fun v18 =>
     (getO s46 v18).bind fun v19 =>
     (some (IntKind.i64.wrap (v19 + 1))).bind fun v20 =>
     (ixO v16.1 s46.length).bind fun v21 =>
     (some (s46.set v21 v20)).bind fun v22 =>
     (ixO v17.1 s47.length).bind fun v23 =>
     (getO s47 v23).bind fun v24 =>
     (some (IntKind.i64.wrap (v24 + 1))).bind fun v25 =>
     (ixO v17.1 s47.length).bind fun v26 =>
     (some (s47.set v26 v25)).bind fun v27 =>
     some (.inl (v22,v27))))
    (fun ((s67,s68) : (List Int) × (List Int)) =>
     (some (IntKind.i64.wrap (s48 + 1))).bind fun v34 =>
     some (.inl (s67,s68,v34))) some)
   (some (.inr (.inl (s46,s47)))))
def rwtS (l : List T_Tok) : (((List Int) × (List Int) × Int)) → Option (((List Int) × (List Int) × Int) ⊕ (((List Int) × (List Int)) ⊕ ((List Int) × (List Int)))) := (fun ((s51,s52,s53) : (List Int) × (List Int) × Int) =>
 cond ((decide (s53 < (l.length : Int))))
  (bindS (S := (List Int) × (List Int)) (A := (((List Int) × (List Int) × Int) ⊕ (((List Int) × (List Int)) ⊕ ((List Int) × (List Int)))))
   ((ixO s53 l.length).bind fun v6 =>
   (getO l v6).bind fun v7 =>
   cond ((v7.Len == 0))
    ((ixO s53 l.length).bind fun v9 =>
    (getO l v9).bind fun v10 =>
    (some (IntKind.i64.wrap v10.Byte)).bind fun v11 =>
    (ixO v11 s51.length).bind fun v12 =>
    (getO s51 v12).bind fun v13 =>
    (some (IntKind.i64.wrap (v13 + 1))).bind fun v14 =>
    (ixO v11 s51.length).bind fun v15 =>
    (some (s51.set v15 v14)).bind fun v16 =>
    some (.inl (v16,s52)))
    ((ixO s53 l.length).bind fun v17 =>
    (getO l v17).bind fun v18 =>
    (wherryref01_Len v18.Len).bind fun v19 =>
    (ixO s53 l.length).bind fun v20 =>
    (getO l v20).bind fun v21 =>
    (wherryref01_Dist v21.Dist).bind fun v22 =>
    (ixO v19.1 s51.length).bind fun v23 =>
    (getO s51 v23).bind fun v24 =>
    (some (IntKind.i64.wrap (v24 + 1))).bind fun v25 =>
    (ixO v19.1 s51.length).bind fun v26 =>
    (some (s51.set v26 v25)).bind fun v27 =>
    (ixO v22.1 s52.length).bind fun v28 =>
    (getO s52 v28).bind fun v29 =>
    (some (IntKind.i64.wrap (v29 + 1))).bind fun v30 =>
    (ixO v22.1 s52.length).bind fun v31 =>
    (some (s52.set v31 v30)).bind fun v32 =>
    some (.inl (v27,v32))))
   (fun ((s72,s73) : (List Int) × (List Int)) =>
    (some (IntKind.i64.wrap (s53 + 1))).bind fun v39 =>
    some (.inl (s72,s73,v39))) some)
  (some (.inr (.inl (s51,s52)))))
def okTok (t : T_Tok) : Prop := t.Byte = 0 ∧ 3 ≤ t.Len ∧ t.Len ≤ 258 ∧ 1 ≤ t.Dist ∧ t.Dist ≤ 2048
instance okTokDec (t : T_Tok) : Decidable (okTok t) := by unfold okTok; infer_instance
def tstep (tot : Nat) (t : T_Tok) : Option Nat := if t.Len = 0 ∧ t.Dist = 0 then some (tot + 1) else if okTok t ∧ t.Dist ≤ (tot : Int) then some (tot + t.Len.toNat) else none
def trun : List T_Tok → Nat → Option Nat
 | [],tot => some tot
 | t :: l,tot => (tstep tot t).bind (trun l)
theorem validMatch_eq (t : T_Tok) : match_validMatch t = some (decide (okTok t)) := by
 unfold match_validMatch
 refine bndL (s := decide (okTok t)) ?_ rfl
 by_cases h1 : t.Byte = 0
 case neg => exact cnd_f (by simp [h1]) (by rw [decide_eq_false (fun h => h1 h.1)])
 refine cnd_t (by simp [h1]) ?_
 by_cases h2 : 3 ≤ t.Len
 case neg => exact cnd_f (by simp; omega) (by rw [decide_eq_false (fun h => h2 h.2.1)])
 refine cnd_t (by simp [h2]) ?_
 by_cases h3 : t.Len ≤ 258
 case neg => exact cnd_f (by simp; omega) (by rw [decide_eq_false (fun h => h3 h.2.2.1)])
 refine cnd_t (by simp [h3]) ?_
 by_cases h4 : 1 ≤ t.Dist
 case neg => exact cnd_f (by simp; omega) (by rw [decide_eq_false (fun h => h4 h.2.2.2.1)])
 refine cnd_t (by simp [h4]) ?_
 by_cases h5 : t.Dist ≤ 2048
 ·rw [decide_eq_true h5,decide_eq_true ⟨h1,h2,h3,h4,h5⟩]
 ·rw [decide_eq_false h5,decide_eq_false (fun h => h5 h.2.2.2.2)]
theorem chk_eq (l : List T_Tok) (hl : l.length ≤ 1300) : ∀ (k fuel i tot : Nat),l.length - i = k → i ≤ l.length → k < fuel → tot ≤ 258 * i →
  loopF (chkS l) fuel ((tot : Int),(i : Int)) = some (match trun (l.drop i) tot with | some T => .inl (T : Int) | none => .inr 1) := by
 intro k
 induction k with
 | zero =>
  intro fuel i tot hk hi hf ht
  obtain ⟨f,rfl⟩ : ∃ f,fuel = f + 1 := ⟨fuel - 1,by omega⟩
  have : i = l.length := by omega
  subst this
  rw [List.drop_length]
  refine loop_exit ?_
  unfold chkS
  exact cnd_f (by simp) rfl
 | succ k ih =>
  intro fuel i tot hk hi hf ht
  obtain ⟨f,rfl⟩ : ∃ f,fuel = f + 1 := ⟨fuel - 1,by omega⟩
  have hlt : i < l.length := by omega
  have hw : IntKind.i64.wrap ((i : Int) + 1) = ((i + 1 : Nat) : Int) := by rw [wrap_i64 (by omega) (by omega)]; simp
  have hdr : l.drop i = l[i] :: l.drop (i + 1) := List.drop_eq_getElem_cons hlt
  have hd : decide ((i : Int) < (l.length : Int)) = true := by simp; omega
  rw [hdr,trun]
  generalize l[i] = t at hdr
  have hgt : getO l i = some t := by
   have h1 := congrArg (fun x => x[0]?) hdr
   simp only [List.getElem?_drop,Nat.add_zero,List.getElem?_cons_zero] at h1
   simpa [getO] using h1
  by_cases h1 : t.Len = 0 ∧ t.Dist = 0
  ·have hs : tstep tot t = some (tot + 1) := by rw [tstep,if_pos h1]
   rw [hs]
   have w1 : IntKind.i64.wrap ((tot : Int) + 1) = ((tot + 1 : Nat) : Int) := by rw [wrap_i64 (by omega) (by omega)]; simp
   refine (loop_next ?_).trans (ih f (i + 1) (tot + 1) (by omega) (by omega) (by omega) (by omega))
   unfold chkS
   refine cnd_t hd (bndL (s := ((tot + 1 : Nat) : Int)) (bnd (ixO_of hlt) (bnd hgt (bndL (s := ((tot + 1 : Nat) : Int)) (bndL (s := true) (cnd_t (by simp [h1.1]) (by simp [h1.2])) (cnd_t rfl (bnd (x := ((tot + 1 : Nat) : Int)) (by rw [w1]) rfl))) rfl))) (bnd (x := ((i + 1 : Nat) : Int)) (by rw [hw]) rfl))
  have hlit : (cond (t.Len == 0) (some (Sum.inl (t.Dist == 0))) (some (.inl false)) : Option (Bool ⊕ (Int ⊕ (Int ⊕ ((Int × Int) ⊕ ((Int) ⊕ Int)))))) = some (.inl false) := by
   by_cases h0 : t.Len = 0
   ·have : ¬ t.Dist = 0 := fun h => h1 ⟨h0,h⟩
    exact cnd_t (by simp [h0]) (by simp [this])
   ·exact cnd_f (by simp [h0]) rfl
  by_cases h2 : okTok t ∧ t.Dist ≤ (tot : Int)
  ·have hs : tstep tot t = some (tot + t.Len.toNat) := by rw [tstep,if_neg h1,if_pos h2]
   rw [hs]
   have hle := h2.1.2.2.1
   have hge := h2.1.2.1
   have w1 : IntKind.i64.wrap ((tot : Int) + t.Len) = ((tot + t.Len.toNat : Nat) : Int) := by rw [wrap_i64 (by omega) (by omega)]; omega
   refine (loop_next ?_).trans (ih f (i + 1) (tot + t.Len.toNat) (by omega) (by omega) (by omega) (by omega))
   unfold chkS
   refine cnd_t hd (bndL (s := ((tot + t.Len.toNat : Nat) : Int)) (bnd (ixO_of hlt) (bnd hgt (bndL (s := ((tot + t.Len.toNat : Nat) : Int)) (bndL (s := false) hlit (cnd_f rfl (bndL (s := true) (bnd (validMatch_eq t) (cnd_t (by rw [decide_eq_true h2.1]) (by rw [decide_eq_true h2.2]))) (cnd_t rfl (bnd (x := ((tot + t.Len.toNat : Nat) : Int)) (by rw [w1]) rfl))))) rfl))) (bnd (x := ((i + 1 : Nat) : Int)) (by rw [hw]) rfl))
  ·have hs : tstep tot t = none := by rw [tstep,if_neg h1,if_neg h2]
   rw [hs]
   refine loop_exit ?_
   unfold chkS
   refine cnd_t hd (bndR (a := .inr (.inr 1)) (bnd (ixO_of hlt) (bnd hgt (bndR (a := .inr (.inr (.inr 1))) (bndL (s := false) hlit (cnd_f rfl (bndL (s := false) (bnd (validMatch_eq t) ?_) (cnd_f rfl rfl)))) rfl))) rfl)
   by_cases h3 : okTok t
   ·exact cnd_t (by rw [decide_eq_true h3]) (by rw [decide_eq_false (fun h => h2 ⟨h3,h⟩)])
   ·exact cnd_f (by rw [decide_eq_false h3]) rfl
def cap (n : Nat) : Nat := if 8192 < n then 8192 else n
theorem rchk_eq (l : List T_Tok) (hl : l.length ≤ 1300) : ∀ (k fuel i tot : Nat),l.length - i = k → i ≤ l.length → k < fuel → tot ≤ 258 * i →
  loopF (rchkS l) fuel ((cap tot : Int),decide (4096 < tot),(i : Int)) = some (match trun (l.drop i) tot with | some T => .inl (decide (4096 < T)) | none => .inr 1) := by
 intro k
 induction k with
 | zero =>
  intro fuel i tot hk hi hf ht
  obtain ⟨f,rfl⟩ : ∃ f,fuel = f + 1 := ⟨fuel - 1,by omega⟩
  have : i = l.length := by omega
  subst this
  rw [List.drop_length]
  refine loop_exit ?_
  unfold rchkS
  exact cnd_f (by simp) rfl
 | succ k ih =>
  intro fuel i tot hk hi hf ht
  obtain ⟨f,rfl⟩ : ∃ f,fuel = f + 1 := ⟨fuel - 1,by omega⟩
  have hlt : i < l.length := by omega
  have hw : IntKind.i64.wrap ((i : Int) + 1) = ((i + 1 : Nat) : Int) := by rw [wrap_i64 (by omega) (by omega)]; simp
  have hdr : l.drop i = l[i] :: l.drop (i + 1) := List.drop_eq_getElem_cons hlt
  have hd : decide ((i : Int) < (l.length : Int)) = true := by simp; omega
  rw [hdr,trun]
  generalize l[i] = t at hdr
  have hgt : getO l i = some t := by
   have h1 := congrArg (fun x => x[0]?) hdr
   simp only [List.getElem?_drop,Nat.add_zero,List.getElem?_cons_zero] at h1
   simpa [getO] using h1
  have hcap : cap tot ≤ 8192 := by unfold cap; split <;> omega
  -- behind the sum
  have tail : ∀ add : Nat,tot + add ≤ 1000000 → ∀ {r},r = some (.inl ((cap (tot + add) : Int),decide (4096 < tot + add),((i + 1 : Nat) : Int))) → (bindS (S := Bool) (A := ((Int × Bool × Int) ⊕ ((Bool) ⊕ Int)))
       (cond (decide (4096 < tot))
        (some (.inl true))
        (some (.inl ((decide (4096 < ((cap tot + add : Nat) : Int)))))))
       (fun (s142 : Bool) =>
        (some (if 8192 < ((cap tot + add : Nat) : Int) then 8192 else ((cap tot + add : Nat) : Int))).bind fun v44 =>
        (some (IntKind.i64.wrap ((i : Int) + 1))).bind fun v45 =>
        some (.inl (v44,s142,v45))) some : Option ((Int × Bool × Int) ⊕ ((Bool) ⊕ Int))) = r := by
   intro add hadd r hr
   subst hr
   have hc2 : (if 8192 < ((cap tot + add : Nat) : Int) then (8192 : Int) else ((cap tot + add : Nat) : Int)) = ((cap (tot + add) : Nat) : Int) := by
    unfold cap
    by_cases a1 : 8192 < tot
    ·rw [if_pos a1,if_pos (show 8192 < tot + add by omega)]
     split <;> omega
    ·rw [if_neg a1]
     by_cases a2 : 8192 < tot + add
     ·rw [if_pos a2,if_pos (by omega)]; rfl
     ·rw [if_neg a2,if_neg (by omega)]
   refine bndL (s := decide (4096 < tot + add)) ?_ (bnd (x := ((cap (tot + add) : Nat) : Int)) (by rw [hc2]) (bnd (x := ((i + 1 : Nat) : Int)) (by rw [hw]) rfl))
   by_cases a1 : 4096 < tot
   ·exact cnd_t (by simp [a1]) (by rw [decide_eq_true (show 4096 < tot + add by omega)])
   ·refine cnd_f (by simp; omega) ?_
    have : cap tot = tot := by unfold cap; rw [if_neg (by omega)]
    rw [this]
    by_cases a2 : 4096 < tot + add
    ·rw [decide_eq_true a2,decide_eq_true (by omega)]
    ·rw [decide_eq_false a2,decide_eq_false (by omega)]
  by_cases h1 : t.Len = 0 ∧ t.Dist = 0
  ·have hs : tstep tot t = some (tot + 1) := by rw [tstep,if_pos h1]
   rw [hs]
   have w1 : IntKind.i64.wrap ((cap tot : Int) + 1) = ((cap tot + 1 : Nat) : Int) := by rw [wrap_i64 (by omega) (by omega)]; simp
   refine (loop_next ?_).trans (ih f (i + 1) (tot + 1) (by omega) (by omega) (by omega) (by omega))
   unfold rchkS
   exact cnd_t hd (bndL (s := ((cap tot + 1 : Nat) : Int)) (bndL (s := true) (bnd (ixO_of hlt) (bnd hgt (cnd_t (by simp [h1.1]) (bnd (ixO_of hlt) (bnd hgt (by simp [h1.2])))))) (cnd_t rfl (bnd (x := ((cap tot + 1 : Nat) : Int)) (by rw [w1]) rfl))) (tail 1 (by omega) rfl))
  have hlit : ((ixO (i : Int) l.length).bind fun v2 => (getO l v2).bind fun v3 => cond ((v3.Len == 0)) ((ixO (i : Int) l.length).bind fun v4 => (getO l v4).bind fun v5 => some (.inl (v5.Dist == 0))) (some (.inl false)) : Option (Bool ⊕ (Int ⊕ ((Int × Bool × Int) ⊕ ((Bool) ⊕ Int))))) = some (.inl false) := by
   refine bnd (ixO_of hlt) (bnd hgt ?_)
   by_cases h0 : t.Len = 0
   ·have : ¬ t.Dist = 0 := fun h => h1 ⟨h0,h⟩
    exact cnd_t (by simp [h0]) (bnd (ixO_of hlt) (bnd hgt (by simp [this])))
   ·exact cnd_f (by simp [h0]) rfl
  have hcd : okTok t → ((cap tot : Int) < t.Dist ↔ ¬ t.Dist ≤ (tot : Int)) := by
   intro h
   have := h.2.2.2.2
   unfold cap
   split <;> omega
  have hbad : ∀ q : Bool,(q = true ↔ ¬ (okTok t ∧ t.Dist ≤ (tot : Int))) → ((ixO (i : Int) l.length).bind fun v12 =>
         (getO l v12).bind fun v13 =>
         cond ((v13.Byte != 0))
          (some (.inl true))
          ((ixO (i : Int) l.length).bind fun v14 =>
          (getO l v14).bind fun v15 =>
          (wherryref01_in v15.Len 3 258).bind fun v16 =>
          cond ((!v16))
           (some (.inl true))
           ((ixO (i : Int) l.length).bind fun v17 =>
           (getO l v17).bind fun v18 =>
           (wherryref01_in v18.Dist 1 2048).bind fun v19 =>
           cond ((!v19))
            (some (.inl true))
            ((ixO (i : Int) l.length).bind fun v20 =>
            (getO l v20).bind fun v21 =>
            some (.inl ((decide ((cap tot : Int) < v21.Dist)))))))  : Option (Bool ⊕ (Int ⊕ ((Int × Bool × Int) ⊕ ((Bool) ⊕ Int))))) = some (.inl q) := by
   intro q hq
   refine bnd (ixO_of hlt) (bnd hgt ?_)
   by_cases b1 : t.Byte = 0
   case neg =>
    have : q = true := hq.2 (fun h => b1 h.1.1)
    exact cnd_t (by simp [b1]) (by rw [this])
   refine cnd_f (by simp [b1]) (bnd (ixO_of hlt) (bnd hgt (bnd (in_eqs _ _ _) ?_)))
   by_cases b2 : 3 ≤ t.Len ∧ t.Len ≤ 258
   case neg =>
    have : q = true := hq.2 (fun h => b2 ⟨h.1.2.1,h.1.2.2.1⟩)
    refine cnd_t ?_ (by rw [this])
    by_cases c : 3 ≤ t.Len
    ·rw [decide_eq_true c,decide_eq_false (fun h => b2 ⟨c,h⟩)]; rfl
    ·rw [decide_eq_false c]; rfl
   refine cnd_f (by rw [decide_eq_true b2.1,decide_eq_true b2.2]; rfl) (bnd (ixO_of hlt) (bnd hgt (bnd (in_eqs _ _ _) ?_)))
   by_cases b3 : 1 ≤ t.Dist ∧ t.Dist ≤ 2048
   case neg =>
    have : q = true := hq.2 (fun h => b3 ⟨h.1.2.2.2.1,h.1.2.2.2.2⟩)
    refine cnd_t ?_ (by rw [this])
    by_cases c : 1 ≤ t.Dist
    ·rw [decide_eq_true c,decide_eq_false (fun h => b3 ⟨c,h⟩)]; rfl
    ·rw [decide_eq_false c]; rfl
   refine cnd_f (by rw [decide_eq_true b3.1,decide_eq_true b3.2]; rfl) (bnd (ixO_of hlt) (bnd hgt ?_))
   have hok : okTok t := ⟨b1,b2.1,b2.2,b3.1,b3.2⟩
   cases q with
   | true =>
    have := hq.1 rfl
    rw [decide_eq_true ((hcd hok).2 fun h => this ⟨hok,h⟩)]
   | false =>
    have : okTok t ∧ t.Dist ≤ (tot : Int) := Classical.byContradiction fun h => by have := hq.2 h; cases this
    rw [decide_eq_false (fun h => (hcd hok).1 h this.2)]
  by_cases h2 : okTok t ∧ t.Dist ≤ (tot : Int)
  ·have hs : tstep tot t = some (tot + t.Len.toNat) := by rw [tstep,if_neg h1,if_pos h2]
   rw [hs]
   have hle := h2.1.2.2.1
   have hge := h2.1.2.1
   have w1 : IntKind.i64.wrap ((cap tot : Int) + t.Len) = ((cap tot + t.Len.toNat : Nat) : Int) := by rw [wrap_i64 (by omega) (by omega)]; omega
   refine (loop_next ?_).trans (ih f (i + 1) (tot + t.Len.toNat) (by omega) (by omega) (by omega) (by omega))
   unfold rchkS
   exact cnd_t hd (bndL (s := ((cap tot + t.Len.toNat : Nat) : Int)) (bndL (s := false) hlit (cnd_f rfl (bndL (s := false) (hbad false (by simp [h2])) (cnd_f rfl (bnd (ixO_of hlt) (bnd hgt (bnd (x := ((cap tot + t.Len.toNat : Nat) : Int)) (by rw [w1]) rfl))))))) (tail t.Len.toNat (by omega) rfl))
  ·have hs : tstep tot t = none := by rw [tstep,if_neg h1,if_neg h2]
   rw [hs]
   refine loop_exit ?_
   unfold rchkS
   exact cnd_t hd (bndR (a := .inr (.inr 1)) (bndL (s := false) hlit (cnd_f rfl (bndL (s := true) (hbad true (by simp only [true_iff]; exact h2)) (cnd_t rfl rfl)))) rfl)
def terr (l : List T_Tok) : Int := match trun l 0 with
 | some T => if 4096 < T then 2 else 0
 | none => 1
theorem check_tok (l : List T_Tok) (hl : l.length ≤ 1300) : match_Check l = some (terr l) := by
 unfold match_Check terr
 have := chk_eq l hl l.length BIG 0 0 (by omega) (Nat.zero_le _) (by unfold BIG; omega) (by omega)
 rw [List.drop_zero] at this
 cases h : trun l 0 with
 | none => rw [h] at this; exact bndR this rfl
 | some T =>
  rw [h] at this
  refine bndL this ?_
  by_cases hT : 4096 < T
  ·exact cnd_t (by simp; omega) (by simp [hT])
  ·exact cnd_f (by simp; omega) (by simp [hT])
theorem rcheck_tok (l : List T_Tok) (hl : l.length ≤ 1300) : wherryref01_CheckToks l = some (terr l) := by
 unfold wherryref01_CheckToks terr
 have := rchk_eq l hl l.length BIG 0 0 (by omega) (Nat.zero_le _) (by unfold BIG; omega) (by omega)
 rw [List.drop_zero] at this
 cases h : trun l 0 with
 | none => rw [h] at this; exact bndR this rfl
 | some T =>
  rw [h] at this
  refine bndL this ?_
  by_cases hT : 4096 < T
  ·exact cnd_t (by simp [hT]) (by simp [hT])
  ·exact cnd_f (by simp [hT]) (by simp [hT])
def goodTok (t : T_Tok) : Prop := t.Len = 0 ∨ (3 ≤ t.Len ∧ t.Len ≤ 258 ∧ 1 ≤ t.Dist ∧ t.Dist ≤ 2048)
theorem trun_good : ∀ (l : List T_Tok) (tot T : Nat),trun l tot = some T → ∀ t ∈ l,goodTok t
 | [],_,_,_,t,ht => by cases ht
 | x :: l,tot,T,h,t,ht => by
  rw [trun] at h
  obtain ⟨y,h1,h2⟩ := Option.bind_eq_some_iff.1 h
  rcases List.mem_cons.1 ht with rfl | ht
  ·unfold tstep at h1
   split at h1
   ·rename_i h3; exact .inl h3.1
   ·split at h1
    ·rename_i h3; exact .inr ⟨h3.1.2.1,h3.1.2.2.1,h3.1.2.2.2.1,h3.1.2.2.2.2⟩
    ·cases h1
  ·exact trun_good l _ _ h2 t ht
theorem wt_both (l : List T_Tok) (hl : l.length ≤ 1300) (hb : ∀ t ∈ l,0 ≤ t.Byte ∧ t.Byte < 256) (hg : ∀ t ∈ l,goodTok t) : ∀ (k fuel i : Nat) (a d : List Int),l.length - i = k → i ≤ l.length → k < fuel → a.length = 286 → d.length = 30 →
  ∃ r,loopF (swtS l) fuel (a,d,(i : Int)) = some (.inl r) ∧ loopF (rwtS l) fuel (a,d,(i : Int)) = some (.inl r) ∧ r.1.length = 286 ∧ r.2.length = 30 := by
 intro k
 induction k with
 | zero =>
  intro fuel i a d hk hi hf ha hdl
  obtain ⟨f,rfl⟩ : ∃ f,fuel = f + 1 := ⟨fuel - 1,by omega⟩
  have : i = l.length := by omega
  subst this
  refine ⟨(a,d),loop_exit ?_,loop_exit ?_,ha,hdl⟩
  ·unfold swtS; exact cnd_f (by simp) rfl
  ·unfold rwtS; exact cnd_f (by simp) rfl
 | succ k ih =>
  intro fuel i a d hk hi hf ha hdl
  obtain ⟨f,rfl⟩ : ∃ f,fuel = f + 1 := ⟨fuel - 1,by omega⟩
  have hlt : i < l.length := by omega
  have hw : IntKind.i64.wrap ((i : Int) + 1) = ((i + 1 : Nat) : Int) := by rw [wrap_i64 (by omega) (by omega)]; simp
  have hd : decide ((i : Int) < (l.length : Int)) = true := by simp; omega
  have hgt := getO_of hlt
  have hb' := hb _ (List.getElem_mem hlt)
  have hg' := hg _ (List.getElem_mem hlt)
  generalize l[i] = t at hgt hb' hg'
  by_cases h0 : t.Len = 0
  ·obtain ⟨x,hx⟩ : ∃ x : Nat,t.Byte = (x : Int) := ⟨t.Byte.toNat,by omega⟩
   have hxa : x < a.length := by omega
   obtain ⟨r,r1,r2,r3⟩ := ih f (i + 1) (a.set x (IntKind.i64.wrap (a[x] + 1))) d (by omega) (by omega) (by omega) (by simp [ha]) hdl
   have wb : IntKind.i64.wrap t.Byte = (x : Int) := by rw [hx,wrap_i64 (by omega) (by omega)]
   refine ⟨r,(loop_next ?_).trans r1,(loop_next ?_).trans r2,r3⟩
   ·unfold swtS
    exact cnd_t hd (bndL (s := (a.set x (IntKind.i64.wrap (a[x] + 1)),d)) (bnd (ixO_of hlt) (bnd hgt (cnd_t (by simp [h0]) (bnd (by rw [hx]; exact ixO_of hxa) (bnd (getO_of hxa) (bnd rfl (bnd (by rw [hx]; exact ixO_of hxa) (bnd rfl rfl)))))))) (bnd (x := ((i + 1 : Nat) : Int)) (by rw [hw]) rfl))
   ·unfold rwtS
    exact cnd_t hd (bndL (s := (a.set x (IntKind.i64.wrap (a[x] + 1)),d)) (bnd (ixO_of hlt) (bnd hgt (cnd_t (by simp [h0]) (bnd (ixO_of hlt) (bnd hgt (bnd (x := (x : Int)) (by rw [wb]) (bnd (ixO_of hxa) (bnd (getO_of hxa) (bnd rfl (bnd (ixO_of hxa) (bnd rfl rfl))))))))))) (bnd (x := ((i + 1 : Nat) : Int)) (by rw [hw]) rfl))
  ·have hv : 3 ≤ t.Len ∧ t.Len ≤ 258 ∧ 1 ≤ t.Dist ∧ t.Dist ≤ 2048 := hg'.resolve_left h0
   obtain ⟨p,p1,p2,p3⟩ := len_same t.Len
   obtain ⟨q,q1,q2,q3⟩ := dist_same t.Dist
   obtain ⟨x,hx1,hx2⟩ := p3 ⟨hv.1,hv.2.1⟩
   obtain ⟨y,hy1,hy2⟩ := q3 ⟨hv.2.2.1,by omega⟩
   have hxa : x < a.length := by omega
   have hyd : y < d.length := by omega
   clear p3 q3
   have ixx : ixO p.1 a.length = some x := by rw [hx2]; exact ixO_of hxa
   have ixy : ixO q.1 d.length = some y := by rw [hy2]; exact ixO_of hyd
   obtain ⟨r,r1,r2,r3⟩ := ih f (i + 1) (a.set x (IntKind.i64.wrap (a[x] + 1))) (d.set y (IntKind.i64.wrap (d[y] + 1))) (by omega) (by omega) (by omega) (by simp [ha]) (by simp [hdl])
   refine ⟨r,(loop_next ?_).trans r1,(loop_next ?_).trans r2,r3⟩
   ·unfold swtS
    exact cnd_t hd (bndL (s := (a.set x (IntKind.i64.wrap (a[x] + 1)),d.set y (IntKind.i64.wrap (d[y] + 1)))) (bnd (ixO_of hlt) (bnd hgt (cnd_f (by simp [h0]) (bnd p1 (bnd q1 (bnd ixx (bnd (getO_of hxa) (bnd rfl (bnd ixx (bnd rfl (bnd ixy (bnd (getO_of hyd) (bnd rfl (bnd ixy (bnd rfl rfl))))))))))))))) (bnd (x := ((i + 1 : Nat) : Int)) (by rw [hw]) rfl))
   ·unfold rwtS
    exact cnd_t hd (bndL (s := (a.set x (IntKind.i64.wrap (a[x] + 1)),d.set y (IntKind.i64.wrap (d[y] + 1)))) (bnd (ixO_of hlt) (bnd hgt (cnd_f (by simp [h0]) (bnd (ixO_of hlt) (bnd hgt (bnd p2 (bnd (ixO_of hlt) (bnd hgt (bnd q2 (bnd ixx (bnd (getO_of hxa) (bnd rfl (bnd ixx (bnd rfl (bnd ixy (bnd (getO_of hyd) (bnd rfl (bnd ixy (bnd rfl rfl))))))))))))))))))) (bnd (x := ((i + 1 : Nat) : Int)) (by rw [hw]) rfl))
theorem weights_same (l : List T_Tok) (hl : l.length ≤ 1300) (hb : ∀ t ∈ l,0 ≤ t.Byte ∧ t.Byte < 256) : ∃ r,sym_Weights l = some r ∧ wherryref01_Weights l = some r ∧ r.1.length ≤ 286 ∧ r.2.1.length ≤ 30 := by
 have m1 : mkO 8 286 (0 : Int) = some (List.replicate 286 0) := by kernel_rfl
 have m2 : mkO 8 30 (0 : Int) = some (List.replicate 30 0) := by kernel_rfl
 by_cases he : terr l = 0
 case neg =>
  refine ⟨([],[],terr l),?_,?_,by simp,by simp⟩
  ·unfold sym_Weights
   exact bnd (check_tok l hl) (cnd_t (by simp [he]) rfl)
  ·unfold wherryref01_Weights
   exact bnd (rcheck_tok l hl) (cnd_t (by simp [he]) rfl)
 have hg : ∀ t ∈ l,goodTok t := by
  unfold terr at he
  cases h : trun l 0 with
  | none => rw [h] at he; simp at he
  | some T => exact trun_good l 0 T h
 have hx : ixO 256 (List.replicate 286 (0 : Int)).length = some 256 := by rw [List.length_replicate]; rfl
 obtain ⟨r,r1,r2,r3,r4⟩ := wt_both l hl hb hg l.length BIG 0 ((List.replicate 286 (0 : Int)).set 256 1) (List.replicate 30 0) (by omega) (Nat.zero_le _) (by unfold BIG; omega) (by rw [List.length_set,List.length_replicate]) (by rw [List.length_replicate])
 refine ⟨(r.1,r.2,0),?_,?_,by show r.1.length ≤ 286; omega,by show r.2.length ≤ 30; omega⟩
 ·unfold sym_Weights
  exact bnd (check_tok l hl) (cnd_f (by simp [he]) (bnd m1 (bnd m2 (bnd hx (bnd rfl (bndL r1 rfl))))))
 ·unfold wherryref01_Weights
  refine bnd (rcheck_tok l hl) (cnd_f (by simp [he]) (bnd (x := r) ?_ rfl))
  unfold wherryref01_weights
  exact bnd m1 (bnd m2 (bnd hx (bnd rfl (bndL r2 rfl))))
theorem rfixed_eq : wherryref01_Fixed = some (fixL,List.replicate 32 5) := by kernel_rfl
end Go.Abs.Sh
