import Derived.Test.YtjdmcbkkacnmdaaGreatDoorLoopM
namespace Go.Abs.Sh
set_option linter.unusedVariables false
set_option linter.unusedSimpArgs false
/-! Numbers that rise: one more put among them. -/
def insS : List Int → Int → List Int
 | [],n => [n]
 | a :: l,n => if a < n then a :: insS l n else n :: a :: l
theorem insS_mem {x n : Int} : ∀ {l : List Int},x ∈ insS l n ↔ x = n ∨ x ∈ l
 | [] => by simp [insS]
 | a :: l => by
  simp only [insS]
  split
  ·simp only [List.mem_cons,insS_mem (l := l)]
   constructor
   ·rintro (h | h | h)
    ·exact .inr (.inl h)
    ·exact .inl h
    ·exact .inr (.inr h)
   ·rintro (h | h | h)
    ·exact .inr (.inl h)
    ·exact .inl h
    ·exact .inr (.inr h)
  ·simp only [List.mem_cons]
theorem insS_len {n : Int} : ∀ {l : List Int},(insS l n).length = l.length + 1
 | [] => rfl
 | a :: l => by
  simp only [insS]
  split
  ·simp only [List.length_cons,insS_len (l := l)]
  ·simp only [List.length_cons]
def Srt (l : List Int) : Prop := l.Pairwise (· < ·)
theorem insS_srt {n : Int} : ∀ {l : List Int},Srt l → n ∉ l → Srt (insS l n)
 | [],_,_ => by simp [insS,Srt]
 | a :: l,h,hn => by
  have h1 : ∀ x ∈ l,a < x := (List.pairwise_cons.1 h).1
  have h2 : Srt l := (List.pairwise_cons.1 h).2
  simp only [insS]
  split
  ·rename_i hlt
   refine List.Pairwise.cons (fun x hx => ?_) (insS_srt h2 (fun hm => hn (List.mem_cons_of_mem _ hm)))
   rcases insS_mem.1 hx with rfl | hx
   ·exact hlt
   ·exact h1 x hx
  ·rename_i hlt
   have hne : n ≠ a := fun e => hn (by rw [e]; exact List.mem_cons_self)
   refine List.Pairwise.cons (fun x hx => ?_) h
   rcases List.mem_cons.1 hx with rfl | hx
   ·omega
   ·have := h1 x hx; omega
theorem ins_at {n : Int} : ∀ {l : List Int} {p : Nat},p ≤ l.length → (∀ i (h : i < l.length),i < p → l[i] < n) → (∀ i (h : i < l.length),p ≤ i → n ≤ l[i]) → l.take p ++ ([n] ++ l.drop p) = insS l n
 | [],p,hp,_,_ => by
  simp only [List.length_nil] at hp
  obtain rfl : p = 0 := by omega
  rfl
 | a :: l,0,hp,_,h2 => by
  have := h2 0 (by simp) (by omega)
  simp only [List.getElem_cons_zero] at this
  simp only [insS,if_neg (by omega : ¬ a < n)]
  rfl
 | a :: l,p + 1,hp,h1,h2 => by
  have := h1 0 (by simp) (by omega)
  simp only [List.getElem_cons_zero] at this
  simp only [insS,if_pos this]
  have hr := ins_at (n := n) (l := l) (p := p) (by simpa using hp) (fun i h hi => h1 (i + 1) (by simpa using h) (by omega)) (fun i h hi => h2 (i + 1) (by simpa using h) (by omega))
  rw [← hr]; rfl
theorem srt_lt {l : List Int} (h : Srt l) {i j : Nat} (hj : j < l.length) (hij : i < j) : l[i] < l[j] := List.pairwise_iff_getElem.1 h i j (by omega) hj hij
theorem index_eq (l : List Int) (v : Int) (hl : l.length < 4294967296) : ∃ k : Int,slices_Index_int_int l v = some k ∧ (decide (0 ≤ k)) = decide (v ∈ l) := by
 unfold slices_Index_int_int
 rcases first_fail (fun i => decide (l[i]? ≠ some v)) l.length with h | ⟨k,hk,h1,h2⟩
 ·refine ⟨-1,?_,?_⟩
  ·refine bndL (s := ()) (loop_from (fun i => ((i : Nat) : Int)) l.length BIG rfl (by simp only [BIG]; omega) (fun i hi => ?_) ?_) rfl
   ·have hx := of_decide_eq_true (h i hi)
    rw [List.getElem?_eq_getElem hi] at hx
    refine cnd_t (decide_eq_true (by omega)) (bnd (ixO_of hi) (bnd (by simp [getO,hi] : getO l i = some l[i]) (cnd_f ?_ (bnd (congrArg some (wrap_succ (by omega))) rfl))))
    exact beq_eq_false_iff_ne.2 (fun e => hx (by rw [e]))
   ·exact cnd_f (decide_eq_false (by omega)) rfl
  ·rw [decide_eq_false (by omega)]
   refine (decide_eq_false fun hm => ?_).symm
   obtain ⟨i,hi,he⟩ := List.getElem_of_mem hm
   have hx := of_decide_eq_true (h i hi)
   exact hx (by rw [List.getElem?_eq_getElem hi,he])
 ·refine ⟨k,?_,?_⟩
  ·refine bndR (a := ((k : Nat) : Int)) (loop_from (fun i => ((i : Nat) : Int)) k BIG rfl (by simp only [BIG]; omega) (fun i hi => ?_) ?_) rfl
   ·have hi' : i < l.length := by omega
    have hx := of_decide_eq_true (h1 i hi)
    rw [List.getElem?_eq_getElem hi'] at hx
    refine cnd_t (decide_eq_true (by omega)) (bnd (ixO_of hi') (bnd (by simp [getO,hi'] : getO l i = some l[i]) (cnd_f ?_ (bnd (congrArg some (wrap_succ (by omega))) rfl))))
    exact beq_eq_false_iff_ne.2 (fun e => hx (by rw [e]))
   ·have hx : l[k]? = some v := by simpa using h2
    rw [List.getElem?_eq_getElem hk] at hx
    exact cnd_t (decide_eq_true (by omega)) (bnd (ixO_of hk) (bnd (by simp [getO,hk] : getO l k = some l[k]) (cnd_t (by rw [Option.some.inj hx]; exact beq_self_eq_true v) rfl)))
  ·have hx : l[k]? = some v := by simpa using h2
   rw [List.getElem?_eq_getElem hk] at hx
   rw [decide_eq_true (by omega),decide_eq_true (Option.some.inj hx ▸ List.getElem_mem hk)]
theorem contains_eq (l : List Int) (v : Int) (hl : l.length < 4294967296) : slices_Contains_int_int l v = some (decide (v ∈ l)) := by
 obtain ⟨k,h1,h2⟩ := index_eq l v hl
 unfold slices_Contains_int_int
 exact bnd h1 (by rw [h2])
theorem shr_half (a : Nat) (ha : a < 9223372036854775808) : shrO .u64 (a : Int) 1 = some ((a / 2 : Nat) : Int) := by
 simp only [shrO]
 rw [if_pos (by omega)]
 have e : min (Int.toNat 1) IntKind.u64.bits = 1 := rfl
 rw [e,Int.fdiv_eq_ediv_of_nonneg _ (by omega)]
 congr 1
theorem u64_wrap {n : Int} (h0 : 0 ≤ n) (h1 : n < 18446744073709551616) : IntKind.u64.wrap n = n := by
 have e : (2 : Int) ^ 64 = 18446744073709551616 := by decide
 simp only [IntKind.wrap,IntKind.bits,IntKind.signed]
 simp only [e,Bool.false_and,Bool.false_eq_true,if_false]
 omega
def bsS (x : List Int) (target : Int) : (Int × Int) → Option ((Int × Int) ⊕ ((Int) ⊕ (Int × Bool))) := (fun ((s27,s28) : Int × Int) =>
   cond ((decide (s27 < s28)))
    (bindS (S := Int × Int) (A := ((Int × Int) ⊕ ((Int) ⊕ (Int × Bool))))
     ((some (IntKind.i64.wrap (s27 + s28))).bind fun v2 =>
     (some (IntKind.u64.wrap v2)).bind fun v3 =>
     (shrO .u64 v3 1).bind fun v4 =>
     (some (IntKind.i64.wrap v4)).bind fun v5 =>
     (ixO v5 x.length).bind fun v6 =>
     (getO x v6).bind fun v7 =>
     (cmp_Less_int v7 target).bind fun v8 =>
     cond (v8)
      ((some (IntKind.i64.wrap (v5 + 1))).bind fun v10 =>
      some (.inl (s28,v10)))
      (some (.inl (v5,s27))))
     (fun ((s46,s47) : Int × Int) =>
      some (.inl (s47,s46))) some)
    (some (.inr (.inl s27))))
theorem less_eq (x y : Int) : cmp_Less_int x y = some (decide (x < y)) := by
 unfold cmp_Less_int cmp_isNaN_int
 simp [bindS]
theorem bs_loop (x : List Int) (t : Int) (hs : Srt x) (hl : x.length < 4294967296) : ∀ (fuel d i j : Nat),j - i = d → d < fuel → i ≤ j → j ≤ x.length → (∀ k (h : k < x.length),k < i → x[k] < t) → (∀ k (h : k < x.length),j ≤ k → t ≤ x[k]) →
  ∃ p : Nat,p ≤ x.length ∧ (∀ k (h : k < x.length),k < p → x[k] < t) ∧ (∀ k (h : k < x.length),p ≤ k → t ≤ x[k]) ∧ loopF (bsS x t) fuel ((i : Int),(j : Int)) = some (.inl (p : Int))
 | 0,d,i,j,_,hf,_,_,_,_ => absurd hf (Nat.not_lt_zero d)
 | fuel + 1,d,i,j,hd,hf,hij,hj,h1,h2 => by
  by_cases h : i < j
  ·have hm : (i + j) / 2 < x.length := by omega
   have hw : IntKind.i64.wrap ((i : Int) + (j : Int)) = ((i + j : Nat) : Int) := by rw [wrap_i64 (by omega) (by omega)]; simp
   have e5 : IntKind.i64.wrap (((i + j) / 2 : Nat) : Int) = (((i + j) / 2 : Nat) : Int) := wrap_nat _ (by omega)
   by_cases hc : x[(i + j) / 2] < t
   ·obtain ⟨p,hp,a,b,c⟩ := bs_loop x t hs hl fuel (j - ((i + j) / 2 + 1)) ((i + j) / 2 + 1) j rfl (by omega) (by omega) hj (fun k hk hki => by
     by_cases hkm : k = (i + j) / 2
     ·subst hkm; exact hc
     ·have := srt_lt hs (i := k) hm (by omega); omega) h2
    refine ⟨p,hp,a,b,?_⟩
    rw [← c]
    refine loop_next ?_
    refine cnd_t (decide_eq_true (by omega)) (bndL (s := ((j : Int),(((i + j) / 2 + 1 : Nat) : Int))) ?_ rfl)
    exact bnd (congrArg some hw) (bnd (congrArg some (u64_wrap (by omega) (by omega))) (bnd (shr_half _ (by omega)) (bnd (congrArg some e5) (bnd (ixO_of hm) (bnd (by simp [getO,hm] : getO x _ = some x[(i + j) / 2]) (bnd (less_eq _ _) (cnd_t (decide_eq_true hc) (bnd (congrArg some (wrap_succ (by omega))) rfl))))))))
   ·obtain ⟨p,hp,a,b,c⟩ := bs_loop x t hs hl fuel ((i + j) / 2 - i) i ((i + j) / 2) rfl (by omega) (by omega) (by omega) h1 (fun k hk hki => by
     by_cases hkm : k = (i + j) / 2
     ·subst hkm; omega
     ·have := srt_lt hs (i := (i + j) / 2) hk (by omega); omega)
    refine ⟨p,hp,a,b,?_⟩
    rw [← c]
    refine loop_next ?_
    refine cnd_t (decide_eq_true (by omega)) (bndL (s := ((((i + j) / 2 : Nat) : Int),(i : Int))) ?_ rfl)
    exact bnd (congrArg some hw) (bnd (congrArg some (u64_wrap (by omega) (by omega))) (bnd (shr_half _ (by omega)) (bnd (congrArg some e5) (bnd (ixO_of hm) (bnd (by simp [getO,hm] : getO x _ = some x[(i + j) / 2]) (bnd (less_eq _ _) (cnd_f (decide_eq_false hc) rfl)))))))
  ·obtain rfl : i = j := by omega
   refine ⟨i,hj,h1,h2,loop_exit (cnd_f (decide_eq_false (by omega)) rfl)⟩
theorem bsearch_eq (x : List Int) (t : Int) (hs : Srt x) (hl : x.length < 4294967295) : ∃ (p : Nat) (b : Bool),slices_BinarySearch_int_int x t = some ((p : Int),b) ∧ p ≤ x.length ∧ (∀ k (h : k < x.length),k < p → x[k] < t) ∧ (∀ k (h : k < x.length),p ≤ k → t ≤ x[k]) := by
 obtain ⟨p,hp,h1,h2,h3⟩ := bs_loop x t hs (by omega) BIG x.length 0 x.length rfl (by simp only [BIG]; omega) (by omega) (by omega) (fun k _ h => absurd h (Nat.not_lt_zero k)) (fun k h h' => absurd h' (by omega))
 unfold slices_BinarySearch_int_int
 by_cases hlt : p < x.length
 ·by_cases he : x[p] = t
  ·refine ⟨p,true,bndL (s := (p : Int)) h3 ?_,hp,h1,h2⟩
   refine bndL (s := true) ?_ rfl
   exact cnd_t (decide_eq_true (by omega)) (bnd (ixO_of hlt) (bnd (by simp [getO,hlt] : getO x p = some x[p]) (cnd_t (by rw [he]; exact beq_self_eq_true t) rfl)))
  ·refine ⟨p,false,bndL (s := (p : Int)) h3 ?_,hp,h1,h2⟩
   refine bndL (s := false) ?_ rfl
   exact cnd_t (decide_eq_true (by omega)) (bnd (ixO_of hlt) (bnd (by simp [getO,hlt] : getO x p = some x[p]) (cnd_f (beq_eq_false_iff_ne.2 he) (bnd (ixO_of hlt) (bnd (by simp [getO,hlt] : getO x p = some x[p]) (bnd (x := false) (by simp [slices_isNaN_int]) rfl))))))
 ·refine ⟨p,false,bndL (s := (p : Int)) h3 ?_,hp,h1,h2⟩
  exact bndL (s := false) (cnd_f (decide_eq_false (by omega)) rfl) rfl
theorem done_ins (x : List Int) (t : Int) (hs : Srt x) (hl : x.length < 1000000000) {R : Type} (f : List Int → Option R) :
  ((slices_BinarySearch_int_int x t).bind fun v => (slices_Insert_int_int x v.1 [t]).bind f) = f (insS x t) := by
 obtain ⟨p,b,h,hp,h1,h2⟩ := bsearch_eq x t hs (by omega)
 refine bnd h ?_
 have hi : slices_Insert_int_int x ((p : Int),b).1 [t] = some (insS x t) := by
  simp only [slices_Insert_int_int]
  rw [if_pos ⟨by omega,by omega,by simp,by simp; omega⟩,Int.toNat_natCast,ins_at hp h1 h2]
 exact bnd hi rfl
end Go.Abs.Sh
