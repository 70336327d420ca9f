import Derived.Test.YtkgfjkfccpjcgaaDoorShkR
import Derived.Test.YtkgfjkfccpjcgaaDoorCanS
import Derived.KernelRfl
namespace Go.Abs.Sh
set_option linter.unusedVariables false
set_option linter.unusedSimpArgs false
set_option maxRecDepth 1000000
theorem wakes6 : wherrylaw06_wakes = some true := by kernel_rfl
theorem inlB {A : Type} {a b : Bool} (h : a = b) : (some (.inl a) : Option (Bool ⊕ A)) = some (.inl b) := by rw [h]
theorem rr1_loop {l : List Int} (hl : l.length ≤ 400) {i : Nat} (hi : i < l.length) : loopF (rr1S l (i : Int)) BIG 1 = some (.inl ((runL l i : Nat) : Int)) := by
 have hp := run_pos hi
 have hle := run_le l i
 have hg := getO_of hi
 refine loop_from (fun k => ((k + 1 : Nat) : Int)) (runL l i - 1) BIG rfl (by simp only [BIG]; omega) (fun k hk => ?_) ?_
 ·obtain ⟨h1,h2⟩ := at_of (run_at (l := l) (i := i) (j := k + 1) (by omega))
  exact bndL (bnd (congrArg some (wrA i (k + 1) (by omega))) (cnd_t (decide_eq_true (by omega)) (bnd (congrArg some (wrA i (k + 1) (by omega))) (bnd (ixO_of h1) (bnd (getO_of h1) (bnd (ixO_of hi) (bnd hg rfl))))))) (cnd_t (by rw [h2,getD_at hi]; exact beq_self_eq_true _) (bnd (congrArg some (wrap_succ (n := k + 1) (by omega))) rfl))
 ·show rr1S l (i : Int) ((runL l i - 1 + 1 : Nat) : Int) = _
  rw [show runL l i - 1 + 1 = runL l i by omega]
  by_cases hk : i + runL l i < l.length
  ·have hs := run_stop hk
   rw [List.getElem?_eq_getElem hk,getD_at hi] at hs
   exact bndL (bnd (congrArg some (wrA i (runL l i) (by omega))) (cnd_t (decide_eq_true (by omega)) (bnd (congrArg some (wrA i (runL l i) (by omega))) (bnd (ixO_of hk) (bnd (getO_of hk) (bnd (ixO_of hi) (bnd hg rfl))))))) (cnd_f (beq_eq_false_iff_ne.2 fun e => hs (by rw [e])) rfl)
  ·exact bndL (bnd (congrArg some (wrA i (runL l i) (by omega))) (cnd_f (decide_eq_false (by omega)) rfl)) (cnd_f rfl rfl)
theorem rr0_step {l : List Int} (hl : l.length ≤ 400) {i : Nat} (hi : i < l.length) {p : List (Int × Nat)} (hp : p.length ≤ i) :
  rr0S l (sy p,mo p,(i : Int)) = some (.inl (sy (p ++ [((stpL l i).1,(stpL l i).2.1)]),mo (p ++ [((stpL l i).1,(stpL l i).2.1)]),((i + (stpL l i).2.2 : Nat) : Int))) := by
 have hq := run_pos hi
 have hle := run_le l i
 have hg := getO_of hi
 rw [← getD_at hi] at hg
 have ha : ∀ v : Int,appO 8 (sy p) [v] = some (sy p ++ [v]) := fun v => app_of (by simp [sy]; omega) (by simp [sy]; omega)
 have hb : ∀ v : Int,appO 8 (mo p) [v] = some (mo p ++ [v]) := fun v => app_of (by simp [mo]; omega) (by simp [mo]; omega)
 have esy : ∀ x n,sy (p ++ [(x,n)]) = sy p ++ [x] := fun x n => by simp [sy]
 have emo : ∀ x n,mo (p ++ [(x,n)]) = mo p ++ [((n : Nat) : Int)] := fun x n => by simp [mo]
 rw [esy,emo]
 refine cnd_t (decide_eq_true (by omega)) (bndL (rr1_loop hl hi) ?_)
 simp only [stpL]
 generalize hx : l.getD i 0 = x at *
 generalize hr : runL l i = r at *
 unfold stpR
 by_cases h1 : x = 0 ∧ 11 ≤ r
 ·rw [if_pos h1]
  obtain ⟨rfl,h1⟩ := h1
  have e1 : (if (138 : Int) < (r : Int) then (138 : Int) else (r : Int)) = ((min r 138 : Nat) : Int) := by
   by_cases h : 138 < r
   ·rw [if_pos (by omega)]; omega
   ·rw [if_neg (by omega)]; omega
  exact bndL (bndL (bnd (ixO_of hi) (bnd hg (cnd_t rfl rfl))) (cnd_t (decide_eq_true (by omega)) (bnd (congrArg some e1) (bnd (ha _) (bnd (congrArg some (wrS (a := min r 138) (b := 11) (by omega) (by omega))) (bnd (hb _) rfl)))))) (bnd (congrArg some (wrA i (min r 138) (by omega))) rfl)
 ·rw [if_neg h1]
  have k1 : (getO l i).bind (fun v39 => cond (v39 == 0) (some (Sum.inl (decide ((11 : Int) ≤ (r : Int))) : Bool ⊕ ((Int × (List Int) × (List Int)) ⊕ (((List Int) × (List Int) × Int) ⊕ (((List Int) × (List Int)) ⊕ ((List Int) × (List Int))))))) (some (.inl false))) = some (.inl false) := by
   refine bnd hg ?_
   by_cases hx0 : x = 0
   ·exact cnd_t (by rw [hx0]; rfl) (inlB (decide_eq_false (fun h => h1 ⟨hx0,by omega⟩)))
   ·exact cnd_f (beq_eq_false_iff_ne.2 hx0) rfl
  by_cases h2 : x = 0 ∧ 3 ≤ r
  ·rw [if_pos h2]
   obtain ⟨rfl,h2⟩ := h2
   exact bndL (bndL (bnd (ixO_of hi) k1) (cnd_f rfl (bndL (bnd (ixO_of hi) (bnd hg (cnd_t rfl rfl))) (cnd_t (decide_eq_true (by omega)) (bnd (ha _) (bnd (congrArg some (wrS (a := r) (b := 3) (by omega) (by omega))) (bnd (hb _) rfl))))))) (bnd (congrArg some (wrA i r (by omega))) rfl)
  ·rw [if_neg h2]
   have k2 : (getO l i).bind (fun v39 => cond (v39 == 0) (some (Sum.inl (decide ((3 : Int) ≤ (r : Int))) : Bool ⊕ ((Int × (List Int) × (List Int)) ⊕ (((List Int) × (List Int) × Int) ⊕ (((List Int) × (List Int)) ⊕ ((List Int) × (List Int))))))) (some (.inl false))) = some (.inl false) := by
    refine bnd hg ?_
    by_cases hx0 : x = 0
    ·exact cnd_t (by rw [hx0]; rfl) (inlB (decide_eq_false (fun h => h2 ⟨hx0,by omega⟩)))
    ·exact cnd_f (beq_eq_false_iff_ne.2 hx0) rfl
   by_cases h3 : x ≠ 0 ∧ 3 ≤ r ∧ prv l i = true
   ·rw [if_pos h3]
    obtain ⟨h31,h32,h33⟩ := h3
    have hpv := of_decide_eq_true h33
    have hi1 : i - 1 < l.length := by omega
    have hg1 := getO_of hi1
    rw [← getD_at hi1,hpv.2,hx] at hg1
    have e1 : (if (6 : Int) < (r : Int) then (6 : Int) else (r : Int)) = ((min r 6 : Nat) : Int) := by
     by_cases h : 6 < r
     ·rw [if_pos (by omega)]; omega
     ·rw [if_neg (by omega)]; omega
    refine bndL (bndL (bnd (ixO_of hi) k1) (cnd_f rfl (bndL (bnd (ixO_of hi) k2) (cnd_f rfl (bndL (s := true) (bnd (ixO_of hi) (bnd hg ?_)) (cnd_t rfl (bnd (congrArg some e1) (bnd (ha _) (bnd (congrArg some (wrS (a := min r 6) (b := 3) (by omega) (by omega))) (bnd (hb _) rfl)))))))))) (bnd (congrArg some (wrA i (min r 6) (by omega))) rfl)
    exact cnd_t (bne_iff_ne.2 h31) (cnd_t (decide_eq_true (by omega)) (bnd (congrArg some (wrS (a := i) (b := 1) (by omega) (by omega))) (bnd (ixO_of hi1) (bnd hg1 (bnd (ixO_of hi) (bnd hg (cnd_t (beq_self_eq_true _) (inlB (decide_eq_true (show (3 : Int) ≤ (r : Int) by omega))))))))))
   ·rw [if_neg h3]
    refine bndL (bndL (bnd (ixO_of hi) k1) (cnd_f rfl (bndL (bnd (ixO_of hi) k2) (cnd_f rfl (bndL (s := false) (bnd (ixO_of hi) (bnd hg ?_)) (cnd_f rfl (bnd (ixO_of hi) (bnd hg (bnd (ha _) (bnd (hb _) rfl)))))))))) (bnd (congrArg some (wrA i 1 (by omega))) rfl)
    by_cases hx0 : x = 0
    ·exact cnd_f (by rw [hx0]; rfl) rfl
    ·by_cases hi0 : 0 < i
     ·have hi1 : i - 1 < l.length := by omega
      have hg1 := getO_of hi1
      rw [← getD_at hi1] at hg1
      refine cnd_t (bne_iff_ne.2 hx0) (cnd_t (decide_eq_true (by omega)) (bnd (congrArg some (wrS (a := i) (b := 1) (by omega) (by omega))) (bnd (ixO_of hi1) (bnd hg1 (bnd (ixO_of hi) (bnd hg ?_))))))
      by_cases he : l.getD (i - 1) 0 = x
      ·exact cnd_t (beq_iff_eq.2 he) (inlB (decide_eq_false fun h => h3 ⟨hx0,by omega,decide_eq_true ⟨hi0,by rw [he,hx]⟩⟩))
      ·exact cnd_f (beq_eq_false_iff_ne.2 he) rfl
     ·exact cnd_t (bne_iff_ne.2 hx0) (cnd_f (decide_eq_false (by omega)) rfl)
theorem rr0_loop {l : List Int} (hl : l.length ≤ 400) : ∀ (k i fuel : Nat) (p : List (Int × Nat)),i ≤ l.length → l.length - i ≤ k → k < fuel → p.length ≤ i → loopF (rr0S l) fuel (sy p,mo p,(i : Int)) = some (.inl (sy (p ++ rowF l k i),mo (p ++ rowF l k i)))
 | k,i,fuel,p,hi,hk,hf,hp => by
  obtain ⟨fu,rfl⟩ : ∃ fu,fuel = fu + 1 := ⟨fuel - 1,by omega⟩
  by_cases hlt : i < l.length
  ·obtain ⟨k,rfl⟩ : ∃ k',k = k' + 1 := ⟨k - 1,by omega⟩
   obtain ⟨c1,c2,c3,c4⟩ := stp_cnt hlt
   have hle := run_le l i
   have ih := rr0_loop hl k (i + (stpL l i).2.2) fu (p ++ [((stpL l i).1,(stpL l i).2.1)]) (by omega) (by omega) (by omega) (by simp; omega)
   have e0 : p ++ rowF l (k + 1) i = (p ++ [((stpL l i).1,(stpL l i).2.1)]) ++ rowF l k (i + (stpL l i).2.2) := by
    rw [rowF,if_pos hlt]; simp
   rw [e0]
   exact (loop_next (rr0_step hl hlt hp)).trans ih
  ·have e : rowF l k i = [] := by
    cases k with
    | zero => rfl
    | succ k => rw [rowF,if_neg hlt]
   rw [e,List.append_nil]
   exact loop_exit (cnd_f (decide_eq_false (by omega)) rfl)
theorem refrow_eq {l : List Int} (hl : l.length ≤ 400) : wherryref01_Row l = some (sy (rowL l),mo (rowL l)) := by
 unfold wherryref01_Row
 exact bndL (rr0_loop hl l.length 0 BIG [] (by omega) (by omega) (by simp only [BIG]; omega) (by simp)) rfl
/-! Read back. -/
theorem lr2_loop (x : Int) : ∀ (k fuel : Nat) (s : List Int),k < fuel → s.length + k ≤ 400 → loopF (lr2S x) fuel (s,(k : Int)) = some (.inl (s ++ List.replicate k x))
 | 0,fuel,s,hf,hs => by
  obtain ⟨fu,rfl⟩ : ∃ fu,fuel = fu + 1 := ⟨fuel - 1,by omega⟩
  rw [List.replicate_zero,List.append_nil]
  exact loop_exit rfl
 | k + 1,fuel,s,hf,hs => by
  obtain ⟨fu,rfl⟩ : ∃ fu,fuel = fu + 1 := ⟨fuel - 1,by omega⟩
  have ih := lr2_loop x k fu (s ++ [x]) (by omega) (by simp; omega)
  rw [List.replicate_succ,List.append_cons]
  exact (loop_next (bndL (cnd_t (decide_eq_true (by omega)) (inlB (decide_eq_true (show (s.length : Int) ≤ 400 by omega)))) (cnd_t rfl (bnd (app_of (m := [x]) (by simp; omega) (by simp; omega)) (bnd (congrArg some (wrS (a := k + 1) (b := 1) (by omega) (by omega))) rfl))))).trans ih
theorem take_run {l : List Int} {i n : Nat} (hi : i ≤ l.length) (h : n ≤ runL l i) : l.take i ++ List.replicate n (l.getD i 0) = l.take (i + n) := by
 have hle := run_le l i
 apply List.ext_getElem?
 intro j
 rw [List.getElem?_append,List.getElem?_replicate,List.length_take]
 simp only [List.getElem?_take]
 by_cases h1 : j < min i l.length
 ·rw [if_pos h1,if_pos (by omega),if_pos (by omega)]
 ·rw [if_neg h1]
  by_cases h2 : j < i + n
  ·have hn : 0 < runL l i := by
    by_cases hz : i < l.length
    ·exact run_pos hz
    ·omega
   rw [if_pos (by omega),if_pos h2]
   have := run_at (l := l) (i := i) (j := j - i) (by omega)
   rw [show i + (j - i) = j by omega] at this
   exact this.symm
  ·rw [if_neg (by omega),if_neg h2]
theorem stp_back {l : List Int} (hv : ∀ n ∈ l,0 ≤ n ∧ n ≤ 15) {i : Nat} (hi : i < l.length) : ((stpL l i).1 = 18 ∧ l.getD i 0 = 0 ∧ (stpL l i).2.2 = 11 + (stpL l i).2.1) ∨ ((stpL l i).1 = 17 ∧ l.getD i 0 = 0 ∧ (stpL l i).2.2 = 3 + (stpL l i).2.1) ∨
  ((stpL l i).1 = 16 ∧ 0 < i ∧ l.getD (i - 1) 0 = l.getD i 0 ∧ (stpL l i).2.2 = 3 + (stpL l i).2.1) ∨ ((stpL l i).1 = l.getD i 0 ∧ 0 ≤ l.getD i 0 ∧ l.getD i 0 ≤ 15 ∧ (stpL l i).2 = (0,1)) := by
 have hx := hv _ (List.getElem_mem hi)
 rw [← getD_at hi] at hx
 have hp := run_pos hi
 unfold stpL stpR
 by_cases h1 : l.getD i 0 = 0 ∧ 11 ≤ runL l i
 ·rw [if_pos h1]; exact .inl ⟨rfl,h1.1,by simp only; omega⟩
 ·rw [if_neg h1]
  by_cases h2 : l.getD i 0 = 0 ∧ 3 ≤ runL l i
  ·rw [if_pos h2]; exact .inr (.inl ⟨rfl,h2.1,by simp only; omega⟩)
  ·rw [if_neg h2]
   by_cases h3 : l.getD i 0 ≠ 0 ∧ 3 ≤ runL l i ∧ prv l i = true
   ·rw [if_pos h3]
    have := of_decide_eq_true h3.2.2
    exact .inr (.inr (.inl ⟨rfl,this.1,this.2,by simp only; omega⟩))
   ·rw [if_neg h3]; exact .inr (.inr (.inr ⟨rfl,hx.1,hx.2,rfl⟩))
theorem lr1_loop {l : List Int} (hl : l.length ≤ 400) (hv : ∀ n ∈ l,0 ≤ n ∧ n ≤ 15) {p : List (Int × Nat)} : ∀ (k i fuel j : Nat),i ≤ l.length → l.length - i ≤ k → k < fuel → p.drop j = rowF l k i → j ≤ p.length → p.length ≤ 400 →
  loopF (lr1S (sy p) (mo p)) fuel (l.take i,(j : Int)) = some (.inl l)
 | k,i,fuel,j,hi,hk,hf,hd,hj,hp4 => by
  obtain ⟨fu,rfl⟩ : ∃ fu,fuel = fu + 1 := ⟨fuel - 1,by omega⟩
  have lsy : (sy p).length = p.length := by simp [sy]
  have lmo : (mo p).length = p.length := by simp [mo]
  by_cases hlt : i < l.length
  ·obtain ⟨k,rfl⟩ : ∃ k',k = k' + 1 := ⟨k - 1,by omega⟩
   rw [rowF,if_pos hlt] at hd
   have hjl : j < p.length := by
    rcases Nat.lt_or_ge j p.length with h | h
    ·exact h
    ·rw [List.drop_eq_nil_of_le h] at hd; cases hd
   rw [List.drop_eq_getElem_cons hjl] at hd
   obtain ⟨d1,d2⟩ := List.cons.inj hd
   obtain ⟨c1,c2,c3,c4⟩ := stp_cnt hlt
   have hle := run_le l i
   have hjs : j < (sy p).length := by omega
   have hjm : j < (mo p).length := by omega
   have g1 : getO (sy p) j = some (stpL l i).1 := by rw [getO_of hjs]; simp [sy,d1]
   have g2 : getO (mo p) j = some (((stpL l i).2.1 : Nat) : Int) := by rw [getO_of hjm]; simp [mo,d1]
   have ih := lr1_loop hl hv k (i + (stpL l i).2.2) fu (j + 1) (by omega) (by omega) (by omega) d2 (by omega) hp4
   have hlen : (l.take i).length = i := by rw [List.length_take]; omega
   have key : ∀ v : Int,v = l.getD i 0 → loopF (lr2S v) BIG (l.take i,(((stpL l i).2.2 : Nat) : Int)) = some (.inl (l.take (i + (stpL l i).2.2))) := fun v hvv => by
    rw [lr2_loop v (stpL l i).2.2 BIG (l.take i) (by simp only [BIG]; omega) (by rw [hlen]; omega),hvv,take_run hi c2]
   have fin : ∀ (v : Int) (n : Int),v = l.getD i 0 → n = (((stpL l i).2.2 : Nat) : Int) → lr1S (sy p) (mo p) (l.take i,(j : Int)) = some (.inl (l.take (i + (stpL l i).2.2),((j + 1 : Nat) : Int))) → loopF (lr1S (sy p) (mo p)) (fu + 1) (l.take i,(j : Int)) = some (.inl l) := fun _ _ _ _ h => (loop_next h).trans ih
   have tail : ∀ (v n : Int),v = l.getD i 0 → n = (((stpL l i).2.2 : Nat) : Int) → bindS (S := (List Int)) (A := (((List Int) × Int) ⊕ (((List Int)) ⊕ Bool))) (loopF (lr2S v) BIG (l.take i,n)) (fun s326 => (some (IntKind.i64.wrap ((j : Int) + 1))).bind fun v132 => some (.inl (s326,v132))) some = some (.inl (l.take (i + (stpL l i).2.2),((j + 1 : Nat) : Int))) := fun v n hv hn => by
    subst hn
    exact bndL (key v hv) (bnd (congrArg some (wrap_succ (n := j) (by omega))) rfl)
   rcases stp_back hv hlt with ⟨q1,q2,q3⟩ | ⟨q1,q2,q3⟩ | ⟨q1,q0,q2,q3⟩ | ⟨q1,q2,q3,q4⟩
   ·rw [q1] at g1
    refine (loop_next (cnd_t (decide_eq_true (by omega)) (bnd (ixO_of hjs) (bnd g1 (bndL (s := (0,((11 + (stpL l i).2.1 : Nat) : Int))) ?_ (tail _ _ q2.symm (by rw [q3]))))))).trans ih
    exact bnd (ixO_of hjs) (bnd g1 (bndL (s := (0,((11 + (stpL l i).2.1 : Nat) : Int))) (cnd_f rfl (cnd_f rfl (cnd_t rfl (bnd (ixO_of hjm) (bnd g2 (bnd (congrArg some (wrA 11 (stpL l i).2.1 (by omega))) rfl)))))) rfl))
   ·rw [q1] at g1
    refine (loop_next (cnd_t (decide_eq_true (by omega)) (bnd (ixO_of hjs) (bnd g1 (bndL (s := (0,((3 + (stpL l i).2.1 : Nat) : Int))) ?_ (tail _ _ q2.symm (by rw [q3]))))))).trans ih
    exact bnd (ixO_of hjs) (bnd g1 (bndL (s := (0,((3 + (stpL l i).2.1 : Nat) : Int))) (cnd_f rfl (cnd_t rfl (bnd (ixO_of hjm) (bnd g2 (bnd (congrArg some (wrA 3 (stpL l i).2.1 (by omega))) rfl))))) rfl))
   ·rw [q1] at g1
    have hi1 : i - 1 < (l.take i).length := by omega
    have hg1 : getO (l.take i) (i - 1) = some (l.getD i 0) := by
     rw [getO_of hi1,← q2,getD_at (show i - 1 < l.length by omega),List.getElem_take]
    have hw : IntKind.i64.wrap (((l.take i).length : Int) - 1) = ((i - 1 : Nat) : Int) := by rw [hlen]; exact wrS (a := i) (b := 1) (by omega) (by omega)
    refine (loop_next (cnd_t (decide_eq_true (by omega)) (bnd (ixO_of hjs) (bnd g1 (bndL (s := (l.getD i 0,((3 + (stpL l i).2.1 : Nat) : Int))) ?_ (tail _ _ rfl (by rw [q3]))))))).trans ih
    exact bnd (ixO_of hjs) (bnd g1 (bndL (s := (l.getD i 0,((3 + (stpL l i).2.1 : Nat) : Int))) (cnd_t rfl (cnd_f (beq_eq_false_iff_ne.2 (by omega)) (bnd (congrArg some hw) (bnd (ixO_of hi1) (bnd hg1 (bnd (ixO_of hjm) (bnd g2 (bnd (congrArg some (wrA 3 (stpL l i).2.1 (by omega))) rfl)))))))) rfl))
   ·have n16 : ((stpL l i).1 == 16) = false := beq_eq_false_iff_ne.2 (by omega)
    have n17 : ((stpL l i).1 == 17) = false := beq_eq_false_iff_ne.2 (by omega)
    have n18 : ((stpL l i).1 == 18) = false := beq_eq_false_iff_ne.2 (by omega)
    refine (loop_next (cnd_t (decide_eq_true (by omega)) (bnd (ixO_of hjs) (bnd g1 (bndL (s := ((stpL l i).1,1)) ?_ (tail _ _ q1 (by rw [q4]; rfl))))))).trans ih
    exact bnd (ixO_of hjs) (bnd g1 (bndL (s := ((stpL l i).1,1)) (cnd_f n16 (cnd_f n17 (cnd_f n18 rfl))) rfl))
  ·have hd' : p.drop j = [] := by
    rw [hd]
    cases k with
    | zero => rfl
    | succ k => rw [rowF,if_neg hlt]
   have hjl : p.length ≤ j := List.drop_eq_nil_iff.1 hd'
   rw [List.take_of_length_le (by omega)]
   exact loop_exit (cnd_f (decide_eq_false (by show ¬ ((j : Nat) : Int) < ((sy p).length : Int); omega)) rfl)
theorem keepI {a : List Int} (h : a.length < 4294967296) : wherrykeep_Ints a a = some true := by
 have := keepInts_eq a a h
 rwa [decide_eq_true rfl] at this
def okN (l : List Int) (i : Nat) : Bool := decide (l.length ≤ 320) && (l.take i).all fun n => decide (0 ≤ n ∧ n ≤ 15)
theorem okN_succ {l : List Int} {i : Nat} (hi : i < l.length) : okN l (i + 1) = (okN l i && decide (0 ≤ l[i] ∧ l[i] ≤ 15)) := by
 unfold okN
 rw [List.take_add_one,List.getElem?_eq_getElem hi,List.all_append]
 simp [Bool.and_assoc]
theorem okN_all (l : List Int) : okN l l.length = decide (okR l) := by
 rw [Bool.eq_iff_iff,decide_eq_true_eq]
 unfold okN okR
 rw [List.take_length]
 simp [List.all_eq_true]
theorem shrinkRow_true (l : List Int) : wherrylaw06_ShrinkRow l = some true := by
 unfold wherrylaw06_ShrinkRow
 by_cases h4 : 400 < l.length
 ·exact cnd_t (decide_eq_true (by omega)) rfl
 have hl : l.length ≤ 400 := by omega
 have htw : wherrykeep_TwinInts l = some l := by
  unfold wherrykeep_TwinInts
  exact bnd (app_of (l := ([] : List Int)) (by simp; omega) (by simp; omega)) rfl
 refine cnd_f (decide_eq_false (by omega)) (bnd htw (bnd (row_eq hl) ?_))
 have hlp : loopF (lr0S l) BIG (decide ((l.length : Int) ≤ 320),0) = some (.inl (decide (okR l))) := by
  have hgen : loopF (lr0S l) BIG (okN l 0,0) = some (.inl (okN l l.length)) := by
   refine loop_from (fun i => (okN l i,(i : Int))) l.length BIG rfl (by simp only [BIG]; omega) (fun i hi => ?_) (cnd_f (decide_eq_false (by omega)) rfl)
   have hg := getO_of hi
   refine cnd_t (decide_eq_true (by omega)) (bndL (s := okN l (i + 1)) ?_ (bnd (congrArg some (wrap_succ (n := i) (by omega))) rfl))
   rw [okN_succ hi]
   by_cases hb : okN l i = true
   ·refine cnd_t hb (bnd (ixO_of hi) (bnd hg ?_))
    rw [hb,Bool.true_and]
    by_cases h0 : 0 ≤ l[i]
    ·exact cnd_t (decide_eq_true h0) (bnd (ixO_of hi) (bnd hg (inlB (decide_eq_decide.2 ⟨fun h => ⟨h0,h⟩,fun h => h.2⟩))))
    ·exact cnd_f (decide_eq_false h0) (inlB (decide_eq_false (fun h => h0 h.1)).symm)
   ·rw [Bool.not_eq_true] at hb
    refine cnd_f hb (inlB ?_)
    rw [hb]; rfl
  rw [okN_all] at hgen
  rw [← hgen]
  congr 2
  simp only [okN,List.take_zero,List.all_nil,Bool.and_true]
  exact decide_eq_decide.2 (by omega)
 refine bndL hlp ?_
 by_cases ho : okR l
 ·rw [if_pos ho]
  have lrow : (rowL l).length ≤ 400 := Nat.le_trans (rowF_len l _ _) hl
  have lsy : (sy (rowL l)).length = (rowL l).length := by simp [sy]
  have lmo : (mo (rowL l)).length = (rowL l).length := by simp [mo]
  refine cnd_f (by rw [decide_eq_true ho]; rfl) (bnd (refrow_eq hl) (bndL (s := false) ?_ (cnd_f rfl ?_)))
  ·exact cnd_f rfl (bnd (keepI (a := sy (rowL l)) (by omega)) (cnd_f rfl (bnd (keepI (a := mo (rowL l)) (by omega)) (cnd_f rfl (bnd (keepI (a := l) (by omega)) (cnd_f rfl (inlB (bne_eq_false_iff_eq.2 (by rw [lsy,lmo]))))))))) 
  ·have hlr := lr1_loop hl ho.2 (p := rowL l) l.length 0 BIG 0 (by omega) (by omega) (by simp only [BIG]; omega) (by simp [rowL]) (by omega) lrow
   exact bndL hlr (bndL (bnd (keepI (by omega)) (cnd_t rfl (bnd wakes6 rfl))) rfl)
 ·rw [if_neg ho]
  exact cnd_t (by rw [decide_eq_false ho]; rfl) (bndL (cnd_t rfl (bnd (congrArg some (wrA 0 0 (by omega))) (cnd_t rfl (bnd wakes6 rfl)))) rfl)
end Go.Abs.Sh
