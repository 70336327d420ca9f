import Derived.Test.YthhebpiaknfnhaaDoorHeavM
import Derived.Test.YthhebpiaknfnhaaDoorPatB
import Derived.Test.YthhebpiaknfnhaaDoorDotA
namespace Go.Abs.Sh
set_option linter.unusedVariables false
set_option linter.unusedSimpArgs false
def room (r : T_Rec) : Nat := 24 + (r.Data.length + r.Mail.Body.length + r.Mail.Helo.size) + 80 * (1 + r.Mail.To.length) + 8 * r.Ids.length
theorem app_nil {A : Type} {k : Nat} {l : List A} (h : l.length * k ≤ 140737488355328) (h1 : l.length ≤ 140737488355328) : appO k [] l = some l := by
  rw [app_of (by simpa using h) (by simpa using h1)]; rfl
theorem clone_mail {m : T_Mail} (h : LM m) : clone_Mail m = some m := by
  obtain ⟨h1, h2⟩ := h
  simp only [mW] at h2
  simp only [clone_Mail, clone_List_api_Path, clone_List_byte]
  rw [app_nil (by omega) (by omega), app_nil (by omega) (by omega)]; rfl
theorem re_of {r : T_Rec} (h : T_Rec.wz r) : mRe r.Mail ∧ r.Data.length < 140737488355328 ∧ r.Ids.length < 140737488355328 := by
  obtain ⟨_, ⟨⟨_, h1, h2⟩, ⟨h3, h4⟩, ⟨h5, _⟩, _, h6, _⟩, _, ⟨h7, _⟩, _, _, _, ⟨h8, _⟩⟩ := h
  simp only [wzS, reachBytes] at h1 h2 h6
  simp only [reachBytes] at h3 h5 h7 h8
  refine ⟨⟨by omega, by omega, by omega, by omega, by omega, fun p hp => ?_⟩, by omega, by omega⟩
  have := h4 p hp
  simp only [T_Path.wz, wzS, reachBytes] at this
  omega
theorem take_succ {A : Type} (l : List A) (k : Nat) (hk : k < l.length) : l.take (k + 1) = l.take k ++ [l[k]] := by
  rw [List.take_add_one, List.getElem?_eq_getElem hk]; rfl
theorem spo_rem (z : Int) (n : Nat) (h0 : 0 < n) (hn : n ≤ 1000000) : ∃ q : Nat, q < n ∧ remO (IntKind.u64.wrap z) (IntKind.u64.wrap (n : Int)) = some (q : Int) := by
  have e : (2 : Int) ^ 64 = 18446744073709551616 := by decide
  have h0' : 0 ≤ IntKind.u64.wrap z := by
    simp only [IntKind.wrap, IntKind.bits, IntKind.signed]
    simp only [e, Bool.false_and, Bool.false_eq_true, if_false]
    omega
  have hnw : IntKind.u64.wrap (n : Int) = (n : Int) := by
    simp only [IntKind.wrap, IntKind.bits, IntKind.signed]
    simp only [e, Bool.false_and, Bool.false_eq_true, if_false]
    omega
  obtain ⟨m, hm⟩ : ∃ m : Nat, IntKind.u64.wrap z = (m : Int) := ⟨(IntKind.u64.wrap z).toNat, by omega⟩
  rw [hm, hnw]
  refine ⟨m % n, Nat.mod_lt _ h0, ?_⟩
  rw [rem_nat _ _ h0]
/-! Numbers that rise: one more put among them. -/
def insS : List Int → Int → List Int
  | [], n => [n]
  | a :: l, n => if a < n then a :: insS l n else n :: a :: l
theorem insS_mem {x n : Int} : ∀ {l : List Int}, x ∈ insS l n ↔ x = n ∨ x ∈ l
  | [] => by simp [insS]
  | a :: l => by
    simp only [insS]
    split
    · simp only [List.mem_cons, insS_mem (l := l)]
      constructor
      · rintro (h | h | h)
        · exact .inr (.inl h)
        · exact .inl h
        · exact .inr (.inr h)
      · rintro (h | h | h)
        · exact .inr (.inl h)
        · exact .inl h
        · exact .inr (.inr h)
    · simp only [List.mem_cons]
theorem insS_len {n : Int} : ∀ {l : List Int}, (insS l n).length = l.length + 1
  | [] => rfl
  | a :: l => by
    simp only [insS]
    split
    · simp only [List.length_cons, insS_len (l := l)]
    · simp only [List.length_cons]
def Srt (l : List Int) : Prop := l.Pairwise (· < ·)
theorem insS_srt {n : Int} : ∀ {l : List Int}, Srt l → n ∉ l → Srt (insS l n)
  | [], _, _ => by simp [insS, Srt]
  | a :: l, h, hn => by
    have h1 : ∀ x ∈ l, a < x := (List.pairwise_cons.1 h).1
    have h2 : Srt l := (List.pairwise_cons.1 h).2
    simp only [insS]
    split
    · rename_i hlt
      refine List.Pairwise.cons (fun x hx => ?_) (insS_srt h2 (fun hm => hn (List.mem_cons_of_mem _ hm)))
      rcases insS_mem.1 hx with rfl | hx
      · exact hlt
      · exact h1 x hx
    · rename_i hlt
      have hne : n ≠ a := fun e => hn (by rw [e]; exact List.mem_cons_self)
      refine List.Pairwise.cons (fun x hx => ?_) h
      rcases List.mem_cons.1 hx with rfl | hx
      · omega
      · have := h1 x hx; omega
theorem ins_at {n : Int} : ∀ {l : List Int} {p : Nat}, p ≤ l.length → (∀ i (h : i < l.length), i < p → l[i] < n) → (∀ i (h : i < l.length), p ≤ i → n ≤ l[i]) → l.take p ++ ([n] ++ l.drop p) = insS l n
  | [], p, hp, _, _ => by
    simp only [List.length_nil] at hp
    obtain rfl : p = 0 := by omega
    rfl
  | a :: l, 0, hp, _, h2 => by
    have := h2 0 (by simp) (by omega)
    simp only [List.getElem_cons_zero] at this
    simp only [insS, if_neg (by omega : ¬ a < n)]
    rfl
  | a :: l, p + 1, hp, h1, h2 => by
    have := h1 0 (by simp) (by omega)
    simp only [List.getElem_cons_zero] at this
    simp only [insS, if_pos this]
    have hr := ins_at (n := n) (l := l) (p := p) (by simpa using hp) (fun i h hi => h1 (i + 1) (by simpa using h) (by omega)) (fun i h hi => h2 (i + 1) (by simpa using h) (by omega))
    rw [← hr]; rfl
theorem srt_lt {l : List Int} (h : Srt l) {i j : Nat} (hj : j < l.length) (hij : i < j) : l[i] < l[j] := List.pairwise_iff_getElem.1 h i j (by omega) hj hij
theorem index_eq (l : List Int) (v : Int) (hl : l.length < 4294967296) : ∃ k : Int, slices_Index_int_int l v = some k ∧ (decide (0 ≤ k)) = decide (v ∈ l) := by
  unfold slices_Index_int_int
  rcases first_fail (fun i => decide (l[i]? ≠ some v)) l.length with h | ⟨k, hk, h1, h2⟩
  · refine ⟨-1, ?_, ?_⟩
    · refine bndL (s := ()) (loop_from (fun i => ((i : Nat) : Int)) l.length BIG rfl (by simp only [BIG]; omega) (fun i hi => ?_) ?_) rfl
      · have hx := of_decide_eq_true (h i hi)
        rw [List.getElem?_eq_getElem hi] at hx
        refine cnd_t (decide_eq_true (by omega)) (bnd (ixO_of hi) (bnd (by simp [getO, hi] : getO l i = some l[i]) (cnd_f ?_ (bnd (congrArg some (wrap_succ (by omega))) rfl))))
        exact beq_eq_false_iff_ne.2 (fun e => hx (by rw [e]))
      · exact cnd_f (decide_eq_false (by omega)) rfl
    · rw [decide_eq_false (by omega)]
      refine (decide_eq_false fun hm => ?_).symm
      obtain ⟨i, hi, he⟩ := List.getElem_of_mem hm
      have hx := of_decide_eq_true (h i hi)
      exact hx (by rw [List.getElem?_eq_getElem hi, he])
  · refine ⟨k, ?_, ?_⟩
    · refine bndR (a := ((k : Nat) : Int)) (loop_from (fun i => ((i : Nat) : Int)) k BIG rfl (by simp only [BIG]; omega) (fun i hi => ?_) ?_) rfl
      · have hi' : i < l.length := by omega
        have hx := of_decide_eq_true (h1 i hi)
        rw [List.getElem?_eq_getElem hi'] at hx
        refine cnd_t (decide_eq_true (by omega)) (bnd (ixO_of hi') (bnd (by simp [getO, hi'] : getO l i = some l[i]) (cnd_f ?_ (bnd (congrArg some (wrap_succ (by omega))) rfl))))
        exact beq_eq_false_iff_ne.2 (fun e => hx (by rw [e]))
      · have hx : l[k]? = some v := by simpa using h2
        rw [List.getElem?_eq_getElem hk] at hx
        exact cnd_t (decide_eq_true (by omega)) (bnd (ixO_of hk) (bnd (by simp [getO, hk] : getO l k = some l[k]) (cnd_t (by rw [Option.some.inj hx]; exact beq_self_eq_true v) rfl)))
    · have hx : l[k]? = some v := by simpa using h2
      rw [List.getElem?_eq_getElem hk] at hx
      rw [decide_eq_true (by omega), decide_eq_true (Option.some.inj hx ▸ List.getElem_mem hk)]
theorem contains_eq (l : List Int) (v : Int) (hl : l.length < 4294967296) : slices_Contains_int_int l v = some (decide (v ∈ l)) := by
  obtain ⟨k, h1, h2⟩ := index_eq l v hl
  unfold slices_Contains_int_int
  exact bnd h1 (by rw [h2])
theorem shr_half (a : Nat) (ha : a < 9223372036854775808) : shrO .u64 (a : Int) 1 = some ((a / 2 : Nat) : Int) := by
  simp only [shrO]
  rw [if_pos (by omega)]
  have e : min (Int.toNat 1) IntKind.u64.bits = 1 := rfl
  rw [e, Int.fdiv_eq_ediv_of_nonneg _ (by omega)]
  congr 1
theorem u64_wrap {n : Int} (h0 : 0 ≤ n) (h1 : n < 18446744073709551616) : IntKind.u64.wrap n = n := by
  have e : (2 : Int) ^ 64 = 18446744073709551616 := by decide
  simp only [IntKind.wrap, IntKind.bits, IntKind.signed]
  simp only [e, Bool.false_and, Bool.false_eq_true, if_false]
  omega
def bsS (x : List Int) (target : Int) : (Int × Int) → Option ((Int × Int) ⊕ ((Int) ⊕ (Int × Bool))) := (fun ((s27, s28) : Int × Int) =>
      cond ((decide (s27 < s28)))
        (bindS (S := Int × Int) (A := ((Int × Int) ⊕ ((Int) ⊕ (Int × Bool))))
          ((some (IntKind.i64.wrap (s27 + s28))).bind fun v2 =>
          (some (IntKind.u64.wrap v2)).bind fun v3 =>
          (shrO .u64 v3 1).bind fun v4 =>
          (some (IntKind.i64.wrap v4)).bind fun v5 =>
          (ixO v5 x.length).bind fun v6 =>
          (getO x v6).bind fun v7 =>
          (cmp_Less_int v7 target).bind fun v8 =>
          cond (v8)
            ((some (IntKind.i64.wrap (v5 + 1))).bind fun v10 =>
            some (.inl (s28, v10)))
            (some (.inl (v5, s27))))
          (fun ((s46, s47) : Int × Int) =>
            some (.inl (s47, s46))) some)
        (some (.inr (.inl s27))))
theorem less_eq (x y : Int) : cmp_Less_int x y = some (decide (x < y)) := by
  unfold cmp_Less_int cmp_isNaN_int
  simp [bindS]
theorem bs_loop (x : List Int) (t : Int) (hs : Srt x) (hl : x.length < 4294967296) : ∀ (fuel d i j : Nat), j - i = d → d < fuel → i ≤ j → j ≤ x.length → (∀ k (h : k < x.length), k < i → x[k] < t) → (∀ k (h : k < x.length), j ≤ k → t ≤ x[k]) →
    ∃ p : Nat, p ≤ x.length ∧ (∀ k (h : k < x.length), k < p → x[k] < t) ∧ (∀ k (h : k < x.length), p ≤ k → t ≤ x[k]) ∧ loopF (bsS x t) fuel ((i : Int), (j : Int)) = some (.inl (p : Int))
  | 0, d, i, j, _, hf, _, _, _, _ => absurd hf (Nat.not_lt_zero d)
  | fuel + 1, d, i, j, hd, hf, hij, hj, h1, h2 => by
    by_cases h : i < j
    · have hm : (i + j) / 2 < x.length := by omega
      have hw : IntKind.i64.wrap ((i : Int) + (j : Int)) = ((i + j : Nat) : Int) := by rw [wrap_i64 (by omega) (by omega)]; simp
      have e5 : IntKind.i64.wrap (((i + j) / 2 : Nat) : Int) = (((i + j) / 2 : Nat) : Int) := wrap_nat _ (by omega)
      by_cases hc : x[(i + j) / 2] < t
      · obtain ⟨p, hp, a, b, c⟩ := bs_loop x t hs hl fuel (j - ((i + j) / 2 + 1)) ((i + j) / 2 + 1) j rfl (by omega) (by omega) hj (fun k hk hki => by
          by_cases hkm : k = (i + j) / 2
          · subst hkm; exact hc
          · have := srt_lt hs (i := k) hm (by omega); omega) h2
        refine ⟨p, hp, a, b, ?_⟩
        rw [← c]
        refine loop_next ?_
        refine cnd_t (decide_eq_true (by omega)) (bndL (s := ((j : Int), (((i + j) / 2 + 1 : Nat) : Int))) ?_ rfl)
        exact bnd (congrArg some hw) (bnd (congrArg some (u64_wrap (by omega) (by omega))) (bnd (shr_half _ (by omega)) (bnd (congrArg some e5) (bnd (ixO_of hm) (bnd (by simp [getO, hm] : getO x _ = some x[(i + j) / 2]) (bnd (less_eq _ _) (cnd_t (decide_eq_true hc) (bnd (congrArg some (wrap_succ (by omega))) rfl))))))))
      · obtain ⟨p, hp, a, b, c⟩ := bs_loop x t hs hl fuel ((i + j) / 2 - i) i ((i + j) / 2) rfl (by omega) (by omega) (by omega) h1 (fun k hk hki => by
          by_cases hkm : k = (i + j) / 2
          · subst hkm; omega
          · have := srt_lt hs (i := (i + j) / 2) hk (by omega); omega)
        refine ⟨p, hp, a, b, ?_⟩
        rw [← c]
        refine loop_next ?_
        refine cnd_t (decide_eq_true (by omega)) (bndL (s := ((((i + j) / 2 : Nat) : Int), (i : Int))) ?_ rfl)
        exact bnd (congrArg some hw) (bnd (congrArg some (u64_wrap (by omega) (by omega))) (bnd (shr_half _ (by omega)) (bnd (congrArg some e5) (bnd (ixO_of hm) (bnd (by simp [getO, hm] : getO x _ = some x[(i + j) / 2]) (bnd (less_eq _ _) (cnd_f (decide_eq_false hc) rfl)))))))
    · obtain rfl : i = j := by omega
      refine ⟨i, hj, h1, h2, loop_exit (cnd_f (decide_eq_false (by omega)) rfl)⟩
theorem bsearch_eq (x : List Int) (t : Int) (hs : Srt x) (hl : x.length < 4294967295) : ∃ (p : Nat) (b : Bool), slices_BinarySearch_int_int x t = some ((p : Int), b) ∧ p ≤ x.length ∧ (∀ k (h : k < x.length), k < p → x[k] < t) ∧ (∀ k (h : k < x.length), p ≤ k → t ≤ x[k]) := by
  obtain ⟨p, hp, h1, h2, h3⟩ := bs_loop x t hs (by omega) BIG x.length 0 x.length rfl (by simp only [BIG]; omega) (by omega) (by omega) (fun k _ h => absurd h (Nat.not_lt_zero k)) (fun k h h' => absurd h' (by omega))
  unfold slices_BinarySearch_int_int
  by_cases hlt : p < x.length
  · by_cases he : x[p] = t
    · refine ⟨p, true, bndL (s := (p : Int)) h3 ?_, hp, h1, h2⟩
      refine bndL (s := true) ?_ rfl
      exact cnd_t (decide_eq_true (by omega)) (bnd (ixO_of hlt) (bnd (by simp [getO, hlt] : getO x p = some x[p]) (cnd_t (by rw [he]; exact beq_self_eq_true t) rfl)))
    · refine ⟨p, false, bndL (s := (p : Int)) h3 ?_, hp, h1, h2⟩
      refine bndL (s := false) ?_ rfl
      exact cnd_t (decide_eq_true (by omega)) (bnd (ixO_of hlt) (bnd (by simp [getO, hlt] : getO x p = some x[p]) (cnd_f (beq_eq_false_iff_ne.2 he) (bnd (ixO_of hlt) (bnd (by simp [getO, hlt] : getO x p = some x[p]) (bnd (x := false) (by simp [slices_isNaN_int]) rfl))))))
  · refine ⟨p, false, bndL (s := (p : Int)) h3 ?_, hp, h1, h2⟩
    exact bndL (s := false) (cnd_f (decide_eq_false (by omega)) rfl) rfl
theorem done_ins (x : List Int) (t : Int) (hs : Srt x) (hl : x.length < 1000000000) {R : Type} (f : List Int → Option R) :
    ((slices_BinarySearch_int_int x t).bind fun v => (slices_Insert_int_int x v.1 [t]).bind f) = f (insS x t) := by
  obtain ⟨p, b, h, hp, h1, h2⟩ := bsearch_eq x t hs (by omega)
  refine bnd h ?_
  have hi : slices_Insert_int_int x ((p : Int), b).1 [t] = some (insS x t) := by
    simp only [slices_Insert_int_int]
    rw [if_pos ⟨by omega, by omega, by simp, by simp; omega⟩, Int.toNat_natCast, ins_at hp h1 h2]
  exact bnd hi rfl
def evS (m : T_Mail) : Int → Option (Int ⊕ (Unit ⊕ Bool)) := (fun (s24 : Int) =>
            cond ((decide (s24 < (m.To.length : Int))))
              ((ixO s24 m.To.length).bind fun v8 =>
              (getO m.To v8).bind fun v9 =>
              bindS (S := Bool) (A := ((Int) ⊕ ((Unit) ⊕ Bool)))
                ((path_Check v9).bind fun v10 =>
                cond ((v10 != 0))
                  (some (.inl true))
                  (some (.inl v9.Null)))
                (fun (s38 : Bool) =>
                  cond (s38)
                    (some (.inr (.inr (false))))
                    ((some (IntKind.i64.wrap (s24 + 1))).bind fun v16 =>
                    some (.inl v16))) some)
              (some (.inr (.inl ()))))
def fnS (s : List T_Item) (n : Int) : Int → Option (Int ⊕ (Unit ⊕ Int)) := (fun (s10 : Int) =>
      cond ((decide (s10 < (s.length : Int))))
        ((ixO s10 s.length).bind fun v2 =>
        (getO s v2).bind fun v3 =>
        (spool_find_1_cap ((T_Item.mk v3.Id ((T_Mail.mk (T_Path.mk v3.Mail.From.Null v3.Mail.From.Local v3.Mail.From.Domain) v3.Mail.To v3.Mail.Body v3.Mail.Quiet v3.Mail.Helo v3.Mail.At)) v3.State v3.Pack)) n).bind fun v4 =>
        cond (v4)
          (some (.inr (.inr (s10))))
          ((some (IntKind.i64.wrap (s10 + 1))).bind fun v6 =>
          some (.inl v6)))
        (some (.inr (.inl ()))))
def idS (s : T_Spool) (ids : List Int) : Int → Option (Int ⊕ (Unit ⊕ Bool)) := (fun (s27 : Int) =>
            cond ((decide (s27 < (ids.length : Int))))
              ((ixO s27 ids.length).bind fun v7 =>
              (getO ids v7).bind fun v8 =>
              bindS (S := Bool) (A := ((Int) ⊕ ((Unit) ⊕ Bool)))
                (cond ((decide (0 < s27)))
                  ((some (IntKind.i64.wrap (s27 - 1))).bind fun v9 =>
                  (ixO v9 ids.length).bind fun v10 =>
                  (getO ids v10).bind fun v11 =>
                  cond ((decide (v8 ≤ v11)))
                    (some (.inl true))
                    ((spool_waits s v8).bind fun v12 =>
                    some (.inl (!v12))))
                  ((spool_waits s v8).bind fun v13 =>
                  some (.inl (!v13))))
                (fun (s41 : Bool) =>
                  cond (s41)
                    (some (.inr (.inr (false))))
                    ((some (IntKind.i64.wrap (s27 + 1))).bind fun v19 =>
                    some (.inl v19))) some)
              (some (.inr (.inl ()))))
/-! What is told always, whatever it is. -/
def PL {A : Type} (m : Option (Bool ⊕ A)) : Prop := ∃ b, m = some (.inl b)
theorem inl_of {A : Type} {a b : Bool} (h : a = b) : (some (.inl a) : Option (Bool ⊕ A)) = some (.inl b) := by rw [h]
theorem pl {A : Type} (b : Bool) : PL (A := A) (some (.inl b)) := ⟨b, rfl⟩
theorem tc {A : Type} {c : Bool} {x y : Option (Bool ⊕ A)} (hx : PL x) (hy : PL y) : PL (cond c x y) := by cases c; exact hy; exact hx
theorem tb {A X : Type} {o : Option X} {f : X → Option (Bool ⊕ A)} {x : X} (h : o = some x) (hf : PL (f x)) : PL (o.bind f) := by subst h; exact hf
theorem fin {m : Option (Bool ⊕ Bool)} {f : Bool → Option Bool} {g : Bool → Option Bool} (h : PL m) (hf : ∀ b, ∃ c, f b = some c) : ∃ b, bindS m f g = some b := by
  obtain ⟨b, rfl⟩ := h
  exact hf b
theorem rest_tot (r : T_Rec) : ∃ q, spool_rest_sh r = some q := by
  unfold spool_rest_sh
  cases (r.Kind == 1) <;> cases (r.Kind == 2) <;> cases (r.Kind == 3) <;> cases (r.Kind == 6) <;> cases (r.Kind == 4) <;> cases (r.Kind == 5) <;> exact ⟨_, rfl⟩
theorem empty_tot (r : T_Rec) : ∃ b, spool_empty r = some b := by
  unfold spool_empty
  refine fin ?_ fun b => fin ?_ fun c => ⟨_, rfl⟩
  · iterate 6 (first | exact pl _ | refine tc ?_ (pl _))
  · iterate 8 (first | exact pl _ | refine tc ?_ (pl _))
def erO (r : T_Rec) : Option Bool := (spool_rest_sh r).bind spool_empty
def er (r : T_Rec) : Bool := (erO r).getD false
theorem er_eq (r : T_Rec) : erO r = some (er r) := by
  obtain ⟨q, h⟩ := rest_tot r
  obtain ⟨b, h'⟩ := empty_tot q
  have : erO r = some b := by unfold erO; exact bnd h h'
  simp only [er, this, Option.getD_some]
theorem lm_small {m : T_Mail} (h : LM m) : Small m.From ∧ (∀ p ∈ m.To, Small p) ∧ m.Body.length ≤ 20000 ∧ m.To.length ≤ 40 := by
  obtain ⟨h1, h2⟩ := h
  have h2' := h2
  simp only [mW] at h2
  refine ⟨⟨by omega, by omega⟩, fun p hp => ?_, by omega, h1⟩
  have := pW_le_psum hp
  simp only [pW] at this
  exact ⟨by omega, by omega⟩
theorem loop_each {R : Type} {f : Int → Option (Int ⊕ (Unit ⊕ R))} (n : Nat) (h : ∀ i : Nat, i < n → f (i : Int) = some (.inl ((i + 1 : Nat) : Int)) ∨ ∃ r, f (i : Int) = some (.inr (.inr r))) (hend : f (n : Int) = some (.inr (.inl ()))) :
    ∀ (d i fuel : Nat), i + d = n → d < fuel → ∃ o, loopF f fuel (i : Int) = some o
  | d, i, 0, _, hf => absurd hf (Nat.not_lt_zero d)
  | 0, i, fuel + 1, hd, hf => by
    obtain rfl : i = n := by omega
    exact ⟨_, loop_exit hend⟩
  | d + 1, i, fuel + 1, hd, hf => by
    rcases h i (by omega) with h1 | ⟨r, h1⟩
    · obtain ⟨o, ho⟩ := loop_each n h hend d (i + 1) fuel (by omega) (by omega)
      exact ⟨o, by rw [loop_next h1]; exact ho⟩
    · exact ⟨_, loop_exit h1⟩
theorem env_tot {m : T_Mail} (h : LM m) : ∃ b, envelope_Valid m = some b := by
  obtain ⟨h1, h2, h3, h4⟩ := lm_small h
  unfold envelope_Valid
  refine fin (tb (check_eq _ h1) (tc (pl _) (tc (pl _) (pl _)))) fun b => ?_
  cases b
  · refine (fun ⟨b, h⟩ => ⟨b, cnd_f rfl h⟩ : (∃ b, _ = some b) → _) ?_
    have hx := loop_each (R := Bool) (f := evS m) m.To.length (fun i hi => ?_) (cnd_f (decide_eq_false (by omega)) rfl) m.To.length 0 BIG (by omega) (by simp only [BIG]; omega)
    · obtain ⟨o, ho⟩ := hx
      cases o with
      | inl u => exact ⟨true, bndL ho rfl⟩
      | inr b => exact ⟨b, bndR ho rfl⟩
    · obtain ⟨b, hb⟩ : PL (A := Int ⊕ (Unit ⊕ Bool)) ((path_Check m.To[i]).bind fun v10 => cond ((v10 != 0)) (some (.inl true)) (some (.inl m.To[i].Null))) := tb (check_eq _ (h2 _ (List.getElem_mem hi))) (tc (pl _) (pl _))
      have e : evS m (i : Int) = some (if b then .inr (.inr false) else .inl ((i + 1 : Nat) : Int)) := by
        refine cnd_t (decide_eq_true (by omega)) (bnd (ixO_of hi) (bnd (by simp [getO, hi] : getO m.To i = some m.To[i]) (bndL hb ?_)))
        cases b
        · exact cnd_f rfl (bnd (congrArg some (wrap_succ (n := i) (by omega))) rfl)
        · rfl
      rw [e]
      cases b
      · exact .inl rfl
      · exact .inr ⟨_, rfl⟩
  · exact ⟨false, rfl⟩
theorem dchk_tot {b : List Int} (hb : byt b) (hl : b.length < 4294967281) : ∃ n, dots_Check b = some n := by
  rcases check_any hb hl with h | ⟨ls, h1, h2, rfl⟩
  · exact ⟨_, h⟩
  · exact ⟨_, check_ok h1 h2 (by rw [← jn_len]; exact hl)⟩
theorem mail_tot {m : T_Mail} (h : LM m) (hb : byt m.Body) : ∃ b, spool_validMail m = some b := by
  obtain ⟨b, h1⟩ := env_tot h
  obtain ⟨n, h2⟩ := dchk_tot hb (by have := (lm_small h).2.2.1; omega)
  unfold spool_validMail
  exact fin (tb h1 (tc (tb h2 (tc (tc (pl _) (pl _)) (pl _))) (pl _))) fun c => ⟨_, rfl⟩
def mv (m : T_Mail) : Bool := (spool_validMail m).getD false
theorem mv_eq {m : T_Mail} (h : LM m) (hb : byt m.Body) : spool_validMail m = some (mv m) := by
  obtain ⟨b, h⟩ := mail_tot h hb
  simp only [mv, h, Option.getD_some]
/-! A spool's items by their Ids. -/
def Ids (s : T_Spool) : Prop := ∀ i (h : i < s.Items.length), s.Items[i].Id = (i : Int) + 1
theorem find_eq (s : T_Spool) (hid : Ids s) (hl : s.Items.length < 4294967296) (n : Int) : spool_find s n = some (if 1 ≤ n ∧ n ≤ (s.Items.length : Int) then n - 1 else -1) := by
  unfold spool_find slices_IndexFunc_api_Item_api_Item_of_spool_find_1
  have go : ∀ i, i < s.Items.length → (i : Int) + 1 ≠ n → fnS s.Items n (i : Int) = some (.inl ((i + 1 : Nat) : Int)) := by
    intro i hi hne
    refine cnd_t (decide_eq_true (by omega)) (bnd (ixO_of hi) (bnd (by simp [getO, hi] : getO s.Items i = some s.Items[i]) (bnd (x := false) ?_ (cnd_f rfl (bnd (congrArg some (wrap_succ (by omega))) rfl)))))
    show some (s.Items[i].Id == n) = some false
    rw [hid i hi, beq_eq_false_iff_ne.2 hne]
  by_cases hn : 1 ≤ n ∧ n ≤ (s.Items.length : Int)
  · rw [if_pos hn]
    obtain ⟨k, rfl⟩ : ∃ k : Nat, n = (k : Int) + 1 := ⟨(n - 1).toNat, by omega⟩
    have hk : k < s.Items.length := by omega
    refine bnd (bndR (a := (k : Int)) (loop_from (fun i => ((i : Nat) : Int)) k BIG rfl (by simp only [BIG]; omega) (fun i hi => go i (by omega) (by omega)) ?_) rfl) (by rw [Int.add_sub_cancel])
    refine cnd_t (decide_eq_true (by omega)) (bnd (ixO_of hk) (bnd (by simp [getO, hk] : getO s.Items k = some s.Items[k]) (bnd (x := true) ?_ rfl)))
    show some (s.Items[k].Id == (k : Int) + 1) = some true
    rw [hid k hk, beq_self_eq_true]
  · rw [if_neg hn]
    refine bnd (bndL (s := ()) (loop_from (fun i => ((i : Nat) : Int)) s.Items.length BIG rfl (by simp only [BIG]; omega) (fun i hi => go i hi (by omega)) ?_) rfl) rfl
    exact cnd_f (decide_eq_false (by omega)) rfl
def wt (s : T_Spool) (n : Int) : Bool := decide (1 ≤ n ∧ n ≤ (s.Items.length : Int)) && ((s.Items[(n - 1).toNat]?.map (·.State)) == some 1)
theorem waits_eq (s : T_Spool) (hid : Ids s) (hl : s.Items.length < 4294967296) (n : Int) : spool_waits s n = some (wt s n) := by
  unfold spool_waits wt
  refine bnd (find_eq s hid hl n) ?_
  by_cases hn : 1 ≤ n ∧ n ≤ (s.Items.length : Int)
  · rw [if_pos hn, decide_eq_true hn, Bool.true_and]
    obtain ⟨k, rfl⟩ : ∃ k : Nat, n = (k : Int) + 1 := ⟨(n - 1).toNat, by omega⟩
    have hk : k < s.Items.length := by omega
    have e : (((k : Int) + 1) - 1) = (k : Int) := by omega
    rw [e, Int.toNat_natCast, List.getElem?_eq_getElem hk]
    exact bndL (s := (s.Items[k].State == 1)) (cnd_t (decide_eq_true (by omega)) (bnd (ixO_of hk) (bnd (by simp [getO, hk] : getO s.Items k = some s.Items[k]) rfl))) (by cases h : (s.Items[k].State == 1) <;> simp_all)
  · rw [if_neg hn, decide_eq_false hn, Bool.false_and]
    exact bndL (s := false) rfl rfl
def idB (s : T_Spool) (ids : List Int) (i : Nat) : Bool := (i == 0 || decide (ids.getD (i - 1) 0 < ids.getD i 0)) && wt s (ids.getD i 0)
def idsB (s : T_Spool) (ids : List Int) : Bool := decide (1 ≤ ids.length ∧ ids.length ≤ 4) && decide (∀ i, i < ids.length → idB s ids i = true)
theorem ids_eq (s : T_Spool) (hid : Ids s) (hl : s.Items.length < 4294967296) (ids : List Int) : spool_validIds s ids = some (idsB s ids) := by
  unfold spool_validIds idsB
  by_cases h1 : ids.length < 1
  · rw [decide_eq_false (by omega : ¬ (1 ≤ ids.length ∧ ids.length ≤ 4)), Bool.false_and]
    exact bndL (s := true) (cnd_t (decide_eq_true (by omega)) rfl) rfl
  · by_cases h4 : 4 < ids.length
    · rw [decide_eq_false (by omega : ¬ (1 ≤ ids.length ∧ ids.length ≤ 4)), Bool.false_and]
      exact bndL (s := true) (cnd_f (decide_eq_false (by omega)) (inl_of (decide_eq_true (by omega)))) rfl
    · rw [decide_eq_true (by omega : 1 ≤ ids.length ∧ ids.length ≤ 4), Bool.true_and]
      refine bndL (s := false) (cnd_f (decide_eq_false (by omega)) (inl_of (decide_eq_false (by omega)))) (cnd_f rfl ?_)
      have rnd : ∀ i, i < ids.length → idS s ids (i : Int) = some (if idB s ids i then .inl ((i + 1 : Nat) : Int) else .inr (.inr false)) := by
        intro i hi
        have hg : getO ids i = some ids[i] := by simp [getO, hi]
        have hd : ids.getD i 0 = ids[i] := by simp [List.getD, hi]
        refine cnd_t (decide_eq_true (by omega)) (bnd (ixO_of hi) (bnd hg (bndL (s := !idB s ids i) ?_ ?_)))
        · cases i with
          | zero => exact cnd_f rfl (bnd (waits_eq s hid hl _) (by simp only [idB, hd, beq_self_eq_true, Bool.true_or, Bool.true_and]))
          | succ k =>
            have hk : k < ids.length := by omega
            have hw : IntKind.i64.wrap (((k + 1 : Nat) : Int) - 1) = (k : Int) := by rw [wrap_i64 (by omega) (by omega)]; omega
            have hd' : ids.getD (k + 1 - 1) 0 = ids[k] := by simp [List.getD, hk]
            refine cnd_t (decide_eq_true (by omega)) (bnd (congrArg some hw) (bnd (ixO_of hk) (bnd (by simp [getO, hk] : getO ids k = some ids[k]) ?_)))
            have e0 : (k + 1 == 0) = false := rfl
            simp only [idB, hd, hd', e0, Bool.false_or]
            by_cases hle : ids[k + 1] ≤ ids[k]
            · rw [decide_eq_false (by omega : ¬ ids[k] < ids[k + 1]), Bool.false_and]
              exact cnd_t (decide_eq_true hle) rfl
            · rw [decide_eq_true (by omega : ids[k] < ids[k + 1]), Bool.true_and]
              exact cnd_f (decide_eq_false hle) (bnd (waits_eq s hid hl _) rfl)
        · cases idB s ids i
          · rfl
          · exact cnd_f rfl (bnd (congrArg some (wrap_succ (n := i) (by omega))) rfl)
      have hrun := loop_all (R := Bool) (idB s ids) ids.length false (fuel := BIG) (by simp only [BIG]; omega) (fun i hi hp => by have := rnd i hi; rw [hp] at this; exact this) (fun i hi hp => by have := rnd i hi; rw [hp] at this; exact this) (cnd_f (decide_eq_false (by omega : ¬ ((ids.length : Nat) : Int) < (ids.length : Int))) rfl)
      by_cases ha : ∀ i, i < ids.length → idB s ids i = true
      · rw [if_pos ha] at hrun
        rw [decide_eq_true ha]
        exact bndL hrun rfl
      · rw [if_neg ha] at hrun
        rw [decide_eq_false ha]
        exact bndR hrun rfl
def opn (s : T_Spool) (n : Int) : Bool := decide (1 ≤ n ∧ n ≤ 65535) && !decide (n ∈ s.Done)
def ckB (s : T_Spool) (r : T_Rec) : Bool := decide (1 ≤ r.Data.length ∧ r.Data.length ≤ 48) && (decide (r.Offset = 0) || decide (s.Of = r.Number ∧ r.Offset = (s.Part.length : Int) ∧ s.Part.length + r.Data.length ≤ 5000))
def okS (s : T_Spool) (r : T_Rec) : Bool := er r && (
  if r.Kind = 1 then decide (s.Items.length < 60 ∧ r.Id = (s.Items.length : Int) + 1 ∧ (r.Origin = 0 ∨ r.Origin = 1)) && mv r.Mail
  else if r.Kind = 2 then decide (r.Number = s.Packs + 1) && idsB s r.Ids
  else if r.Kind = 3 then decide (1 ≤ r.Number ∧ r.Number ≤ s.Packs ∧ r.Number ∉ s.Sent)
  else if r.Kind = 4 then wt s r.Id
  else if r.Kind = 5 then opn s r.Number && ckB s r
  else if r.Kind = 6 then opn s r.Number
  else false)
def f2 (ids : List Int) (n : Int) (x : T_Item) : T_Item := if x.Id ∈ ids then ⟨x.Id, x.Mail, 2, n⟩ else x
def f3 (n : Int) (x : T_Item) : T_Item := if x.Pack = n then ⟨x.Id, x.Mail, 3, x.Pack⟩ else x
def f4 (n : Int) (x : T_Item) : T_Item := if x.Id = n then ⟨x.Id, x.Mail, 4, x.Pack⟩ else x
def eff (s : T_Spool) (r : T_Rec) : T_Spool :=
  if r.Kind = 1 then ⟨s.Items ++ [⟨r.Id, r.Mail, if r.Origin = 0 then 3 else 1, 0⟩], s.Packs, s.Sent, s.Part, s.Of, s.Done⟩
  else if r.Kind = 2 then ⟨s.Items.map (f2 r.Ids r.Number), r.Number, s.Sent, s.Part, s.Of, s.Done⟩
  else if r.Kind = 3 then ⟨s.Items.map (f3 r.Number), s.Packs, s.Sent ++ [r.Number], s.Part, s.Of, s.Done⟩
  else if r.Kind = 4 then ⟨s.Items.map (f4 r.Id), s.Packs, s.Sent, s.Part, s.Of, s.Done⟩
  else if r.Kind = 5 then ⟨s.Items, s.Packs, s.Sent, if r.Offset = 0 then r.Data else s.Part ++ r.Data, if r.Offset = 0 then r.Number else s.Of, s.Done⟩
  else ⟨s.Items, s.Packs, s.Sent, if s.Of = r.Number then [] else s.Part, if s.Of = r.Number then -1 else s.Of, insS s.Done r.Number⟩
def Rok (r : T_Rec) : Prop := LR r ∧ byt r.Mail.Body
structure Inv (n : Nat) (s : T_Spool) : Prop where
  hn : n < 1000000
  len : s.Items.length ≤ n
  ids : Ids s
  lm : ∀ x ∈ s.Items, LM x.Mail
  packs : 0 ≤ s.Packs ∧ s.Packs ≤ (n : Int)
  sent : s.Sent.length ≤ n
  part : s.Part.length ≤ 5000
  done : s.Done.length ≤ n
  srt : Srt s.Done
theorem open_eq {n : Nat} {s : T_Spool} (hs : Inv n s) (k : Int) : spool_open s k = some (opn s k) := by
  have := hs.hn; have := hs.done
  unfold spool_open opn
  by_cases h1 : 1 ≤ k
  · by_cases h2 : k ≤ 65535
    · rw [(decide_eq_true ⟨h1, h2⟩ : decide (1 ≤ k ∧ k ≤ 65535) = true), Bool.true_and]
      exact bndL (cnd_t (decide_eq_true h1) (cnd_t (decide_eq_true h2) (bnd (contains_eq _ _ (by omega)) rfl))) rfl
    · rw [(decide_eq_false (fun h => h2 h.2) : decide (1 ≤ k ∧ k ≤ 65535) = false), Bool.false_and]
      exact bndL (cnd_t (decide_eq_true h1) (cnd_f (decide_eq_false h2) rfl)) rfl
  · rw [(decide_eq_false (fun h => h1 h.1) : decide (1 ≤ k ∧ k ≤ 65535) = false), Bool.false_and]
    exact bndL (cnd_f (decide_eq_false h1) rfl) rfl
theorem chunk_eq {n : Nat} {s : T_Spool} {r : T_Rec} (hs : Inv n s) (hr : Rok r) : spool_validChunk s r = some (ckB s r) := by
  have h5 := hs.part; have hd := hr.1.1
  unfold spool_validChunk ckB
  by_cases h1 : r.Data.length < 1
  · rw [decide_eq_false (by omega : ¬ (1 ≤ r.Data.length ∧ r.Data.length ≤ 48)), Bool.false_and]
    exact bndL (s := true) (cnd_t (decide_eq_true (by omega)) rfl) rfl
  by_cases h2 : 48 < r.Data.length
  · rw [decide_eq_false (by omega : ¬ (1 ≤ r.Data.length ∧ r.Data.length ≤ 48)), Bool.false_and]
    exact bndL (s := true) (cnd_f (decide_eq_false (by omega)) (inl_of (decide_eq_true (by omega)))) rfl
  rw [decide_eq_true (by omega : 1 ≤ r.Data.length ∧ r.Data.length ≤ 48), Bool.true_and]
  refine bndL (s := false) (cnd_f (decide_eq_false (by omega)) (inl_of (decide_eq_false (by omega)))) (cnd_f rfl ?_)
  by_cases ho : r.Offset = 0
  · rw [(decide_eq_true ho : decide (r.Offset = 0) = true), Bool.true_or]
    exact cnd_t (beq_iff_eq.2 ho) rfl
  rw [(decide_eq_false ho : decide (r.Offset = 0) = false), Bool.false_or]
  refine cnd_f (beq_eq_false_iff_ne.2 ho) (bndL (s := decide (s.Of = r.Number ∧ r.Offset = (s.Part.length : Int) ∧ s.Part.length + r.Data.length ≤ 5000)) ?_ rfl)
  by_cases a : s.Of = r.Number
  · by_cases b : r.Offset = (s.Part.length : Int)
    · have hw := wadd (a := s.Part.length) (b := r.Data.length) (by omega)
      refine cnd_t (beq_iff_eq.2 a) (cnd_t (beq_iff_eq.2 b) (bnd hw (inl_of ?_)))
      by_cases c : s.Part.length + r.Data.length ≤ 5000
      · rw [(decide_eq_true ⟨a, b, c⟩ : decide (s.Of = r.Number ∧ r.Offset = (s.Part.length : Int) ∧ s.Part.length + r.Data.length ≤ 5000) = true)]; exact decide_eq_true (by omega)
      · rw [(decide_eq_false (fun h => c h.2.2) : decide (s.Of = r.Number ∧ r.Offset = (s.Part.length : Int) ∧ s.Part.length + r.Data.length ≤ 5000) = false)]; exact decide_eq_false (by omega)
    · rw [(decide_eq_false (fun h => b h.2.1) : decide (s.Of = r.Number ∧ r.Offset = (s.Part.length : Int) ∧ s.Part.length + r.Data.length ≤ 5000) = false)]
      exact cnd_t (beq_iff_eq.2 a) (cnd_f (beq_eq_false_iff_ne.2 b) rfl)
  · rw [(decide_eq_false (fun h => a h.1) : decide (s.Of = r.Number ∧ r.Offset = (s.Part.length : Int) ∧ s.Part.length + r.Data.length ≤ 5000) = false)]
    exact cnd_f (beq_eq_false_iff_ne.2 a) rfl
theorem valid_eq {n : Nat} {s : T_Spool} {r : T_Rec} (hs : Inv n s) (hr : Rok r) : spool_valid s r = some (okS s r) := by
  have hl := hs.len; have hn := hs.hn; have hp := hs.packs; have hse := hs.sent
  obtain ⟨q, hq⟩ := rest_tot r
  have he : spool_empty q = some (er r) := by rw [← er_eq r]; unfold erO; rw [hq]; rfl
  unfold spool_valid okS
  refine bnd hq (bnd he ?_)
  cases er r
  · exact cnd_t rfl rfl
  rw [Bool.true_and]
  refine cnd_f rfl ?_
  by_cases k1 : r.Kind = 1
  · rw [if_pos k1]
    refine cnd_t (beq_iff_eq.2 k1) ?_
    by_cases a : s.Items.length < 60
    · by_cases b : r.Id = (s.Items.length : Int) + 1
      · have hw : IntKind.i64.wrap ((s.Items.length : Int) + 1) = (s.Items.length : Int) + 1 := wrap_i64 (by omega) (by omega)
        by_cases c : r.Origin = 0
        · rw [(decide_eq_true ⟨a, b, .inl c⟩ : decide (s.Items.length < 60 ∧ r.Id = (s.Items.length : Int) + 1 ∧ (r.Origin = 0 ∨ r.Origin = 1)) = true), Bool.true_and]
          exact bndL (cnd_t (decide_eq_true (by omega)) (bnd (congrArg some hw) (cnd_t (beq_iff_eq.2 b) (cnd_t (beq_iff_eq.2 c) (bnd (mv_eq hr.1.2.2 hr.2) rfl))))) rfl
        · by_cases d : r.Origin = 1
          · rw [(decide_eq_true ⟨a, b, .inr d⟩ : decide (s.Items.length < 60 ∧ r.Id = (s.Items.length : Int) + 1 ∧ (r.Origin = 0 ∨ r.Origin = 1)) = true), Bool.true_and]
            exact bndL (cnd_t (decide_eq_true (by omega)) (bnd (congrArg some hw) (cnd_t (beq_iff_eq.2 b) (cnd_f (beq_eq_false_iff_ne.2 c) (cnd_t (beq_iff_eq.2 d) (bnd (mv_eq hr.1.2.2 hr.2) rfl)))))) rfl
          · rw [(decide_eq_false (fun h => h.2.2.elim c d) : decide (s.Items.length < 60 ∧ r.Id = (s.Items.length : Int) + 1 ∧ (r.Origin = 0 ∨ r.Origin = 1)) = false), Bool.false_and]
            exact bndL (cnd_t (decide_eq_true (by omega)) (bnd (congrArg some hw) (cnd_t (beq_iff_eq.2 b) (cnd_f (beq_eq_false_iff_ne.2 c) (cnd_f (beq_eq_false_iff_ne.2 d) rfl))))) rfl
      · have hw : IntKind.i64.wrap ((s.Items.length : Int) + 1) = (s.Items.length : Int) + 1 := wrap_i64 (by omega) (by omega)
        rw [(decide_eq_false (fun h => b h.2.1) : decide (s.Items.length < 60 ∧ r.Id = (s.Items.length : Int) + 1 ∧ (r.Origin = 0 ∨ r.Origin = 1)) = false), Bool.false_and]
        exact bndL (cnd_t (decide_eq_true (by omega)) (bnd (congrArg some hw) (cnd_f (beq_eq_false_iff_ne.2 b) rfl))) rfl
    · rw [(decide_eq_false (fun h => a h.1) : decide (s.Items.length < 60 ∧ r.Id = (s.Items.length : Int) + 1 ∧ (r.Origin = 0 ∨ r.Origin = 1)) = false), Bool.false_and]
      exact bndL (cnd_f (decide_eq_false (by omega)) rfl) rfl
  rw [if_neg k1]
  refine cnd_f (beq_eq_false_iff_ne.2 k1) ?_
  by_cases k2 : r.Kind = 2
  · rw [if_pos k2]
    refine cnd_t (beq_iff_eq.2 k2) ?_
    have hw : IntKind.i64.wrap (s.Packs + 1) = s.Packs + 1 := wrap_i64 (by omega) (by omega)
    by_cases a : r.Number = s.Packs + 1
    · rw [(decide_eq_true a : decide (r.Number = s.Packs + 1) = true), Bool.true_and]
      exact bndL (bnd (congrArg some hw) (cnd_t (beq_iff_eq.2 a) (bnd (ids_eq s hs.ids (by omega) _) rfl))) rfl
    · rw [(decide_eq_false a : decide (r.Number = s.Packs + 1) = false), Bool.false_and]
      exact bndL (bnd (congrArg some hw) (cnd_f (beq_eq_false_iff_ne.2 a) rfl)) rfl
  rw [if_neg k2]
  refine cnd_f (beq_eq_false_iff_ne.2 k2) ?_
  by_cases k3 : r.Kind = 3
  · rw [if_pos k3]
    refine cnd_t (beq_iff_eq.2 k3) ?_
    by_cases a : 1 ≤ r.Number
    · by_cases b : r.Number ≤ s.Packs
      · refine bndL (s := !decide (r.Number ∈ s.Sent)) (cnd_t (decide_eq_true a) (cnd_t (decide_eq_true b) (bnd (contains_eq _ _ (by omega)) rfl))) ?_
        by_cases c : r.Number ∈ s.Sent
        · rw [(decide_eq_true c : decide (r.Number ∈ s.Sent) = true), (decide_eq_false (fun h => h.2.2 c) : decide (1 ≤ r.Number ∧ r.Number ≤ s.Packs ∧ r.Number ∉ s.Sent) = false)]; rfl
        · rw [(decide_eq_false c : decide (r.Number ∈ s.Sent) = false), (decide_eq_true ⟨a, b, c⟩ : decide (1 ≤ r.Number ∧ r.Number ≤ s.Packs ∧ r.Number ∉ s.Sent) = true)]; rfl
      · rw [(decide_eq_false (fun h => b h.2.1) : decide (1 ≤ r.Number ∧ r.Number ≤ s.Packs ∧ r.Number ∉ s.Sent) = false)]
        exact bndL (cnd_t (decide_eq_true a) (cnd_f (decide_eq_false b) rfl)) rfl
    · rw [(decide_eq_false (fun h => a h.1) : decide (1 ≤ r.Number ∧ r.Number ≤ s.Packs ∧ r.Number ∉ s.Sent) = false)]
      exact bndL (cnd_f (decide_eq_false a) rfl) rfl
  rw [if_neg k3]
  refine cnd_f (beq_eq_false_iff_ne.2 k3) ?_
  by_cases k4 : r.Kind = 4
  · rw [if_pos k4]
    exact cnd_t (beq_iff_eq.2 k4) (bnd (waits_eq s hs.ids (by omega) _) rfl)
  rw [if_neg k4]
  refine cnd_f (beq_eq_false_iff_ne.2 k4) ?_
  by_cases k5 : r.Kind = 5
  · rw [if_pos k5]
    refine cnd_t (beq_iff_eq.2 k5) ?_
    cases ho : opn s r.Number
    · exact bndL (s := false) (bnd (open_eq hs _) (cnd_f ho rfl)) rfl
    · exact bndL (s := ckB s r) (bnd (open_eq hs _) (cnd_t ho (bnd (chunk_eq hs hr) rfl))) rfl
  rw [if_neg k5]
  refine cnd_f (beq_eq_false_iff_ne.2 k5) ?_
  by_cases k6 : r.Kind = 6
  · rw [if_pos k6]
    exact cnd_t (beq_iff_eq.2 k6) (bnd (open_eq hs _) rfl)
  rw [if_neg k6]
  exact cnd_f (beq_eq_false_iff_ne.2 k6) rfl
def upd {A : Type} (f : A → A) (k : Nat) (l : List A) : List A := (l.take k).map f ++ l.drop k
theorem upd_len {A : Type} (f : A → A) (k : Nat) (l : List A) : (upd f k l).length = l.length := by simp [upd]; omega
theorem upd_get {A : Type} (f : A → A) {k : Nat} {l : List A} (h : k < l.length) : getO (upd f k l) k = some l[k] := by
  simp only [getO, upd]
  rw [List.getElem?_append_right (by simp; omega)]
  simp [Nat.min_eq_left (Nat.le_of_lt h), h]
theorem upd_succ {A : Type} (f : A → A) {k : Nat} {l : List A} (h : k < l.length) : upd f (k + 1) l = (l.take k).map f ++ f l[k] :: l.drop (k + 1) := by
  simp only [upd]
  rw [take_succ l k h, List.map_append, List.append_assoc]
  rfl
theorem upd_set {A : Type} (f : A → A) {k : Nat} {l : List A} (h : k < l.length) (x : A) (hx : x = f l[k]) : (upd f k l).set k x = upd f (k + 1) l := by
  subst hx
  rw [upd_succ f h]
  simp only [upd]
  rw [List.set_append_right _ _ (by simp; omega)]
  congr 1
  rw [show k - ((l.take k).map f).length = 0 from by simp; omega, List.drop_eq_getElem_cons h]
  rfl
theorem upd_same {A : Type} (f : A → A) {k : Nat} {l : List A} (h : k < l.length) (hx : f l[k] = l[k]) : upd f k l = upd f (k + 1) l := by
  rw [upd_succ f h, hx]
  simp only [upd]
  rw [List.drop_eq_getElem_cons h]
theorem upd_all {A : Type} (f : A → A) (l : List A) : upd f l.length l = l.map f := by simp [upd]
def ap2 (s : T_Spool) (p_r : T_Rec) : ((List T_Item) × Int) → Option (((List T_Item) × Int) ⊕ (((List T_Item)) ⊕ (((List T_Item) × Int × (List Int) × (List Int) × Int × (List Int)) ⊕ T_Spool))) := (fun ((s158, s159) : (List T_Item) × Int) =>
            cond ((decide (s159 < (s.Items.length : Int))))
              (bindS (S := (List T_Item)) (A := (((List T_Item) × Int) ⊕ (((List T_Item)) ⊕ (((List T_Item) × Int × (List Int) × (List Int) × Int × (List Int)) ⊕ T_Spool))))
                ((ixO s159 s158.length).bind fun v12 =>
                (getO s158 v12).bind fun v13 =>
                (slices_Contains_int_int p_r.Ids v13.Id).bind fun v14 =>
                cond (v14)
                  ((ixO s159 s158.length).bind fun v16 =>
                  (getO s158 v16).bind fun v17 =>
                  (some (s158.set v16 ((T_Item.mk v17.Id ((T_Mail.mk (T_Path.mk v17.Mail.From.Null v17.Mail.From.Local v17.Mail.From.Domain) v17.Mail.To v17.Mail.Body v17.Mail.Quiet v17.Mail.Helo v17.Mail.At)) 2 v17.Pack)))).bind fun v18 =>
                  (ixO s159 v18.length).bind fun v19 =>
                  (getO v18 v19).bind fun v20 =>
                  (some (v18.set v19 ((T_Item.mk v20.Id ((T_Mail.mk (T_Path.mk v20.Mail.From.Null v20.Mail.From.Local v20.Mail.From.Domain) v20.Mail.To v20.Mail.Body v20.Mail.Quiet v20.Mail.Helo v20.Mail.At)) v20.State p_r.Number)))).bind fun v21 =>
                  some (.inl v21))
                  (some (.inl s158)))
                (fun (s176 : (List T_Item)) =>
                  (some (IntKind.i64.wrap (s159 + 1))).bind fun v27 =>
                  some (.inl (s176, v27))) some)
              (some (.inr (.inl s158))))
def ap3 (s : T_Spool) (p_r : T_Rec) : ((List T_Item) × Int) → Option (((List T_Item) × Int) ⊕ (((List T_Item)) ⊕ (((List T_Item) × Int × (List Int) × (List Int) × Int × (List Int)) ⊕ T_Spool))) := (fun ((s198, s199) : (List T_Item) × Int) =>
              cond ((decide (s199 < (s.Items.length : Int))))
                (bindS (S := (List T_Item)) (A := (((List T_Item) × Int) ⊕ (((List T_Item)) ⊕ (((List T_Item) × Int × (List Int) × (List Int) × Int × (List Int)) ⊕ T_Spool))))
                  ((ixO s199 s198.length).bind fun v62 =>
                  (getO s198 v62).bind fun v63 =>
                  cond ((v63.Pack == p_r.Number))
                    ((ixO s199 s198.length).bind fun v65 =>
                    (getO s198 v65).bind fun v66 =>
                    (some (s198.set v65 ((T_Item.mk v66.Id ((T_Mail.mk (T_Path.mk v66.Mail.From.Null v66.Mail.From.Local v66.Mail.From.Domain) v66.Mail.To v66.Mail.Body v66.Mail.Quiet v66.Mail.Helo v66.Mail.At)) 3 v66.Pack)))).bind fun v67 =>
                    some (.inl v67))
                    (some (.inl s198)))
                  (fun (s216 : (List T_Item)) =>
                    (some (IntKind.i64.wrap (s199 + 1))).bind fun v73 =>
                    some (.inl (s216, v73))) some)
                (some (.inr (.inl s198))))
theorem loop2 (s : T_Spool) (r : T_Rec) (hl : s.Items.length < 1000000) (hi : r.Ids.length < 1000000) : loopF (ap2 s r) BIG (s.Items, 0) = some (.inl (s.Items.map (f2 r.Ids r.Number))) := by
  refine loop_from (fun k => (upd (f2 r.Ids r.Number) k s.Items, (k : Int))) s.Items.length BIG rfl (by simp only [BIG]; omega) (fun k hk => ?_) ?_
  · have hx : ixO (k : Int) (upd (f2 r.Ids r.Number) k s.Items).length = some k := ixO_of (by rw [upd_len]; exact hk)
    have hg := upd_get (f2 r.Ids r.Number) hk
    refine cnd_t (decide_eq_true (by omega)) (bndL (s := upd (f2 r.Ids r.Number) (k + 1) s.Items) (bnd hx (bnd hg (bnd (contains_eq _ _ (by omega)) ?_))) (bnd (congrArg some (wrap_succ (n := k) (by omega))) rfl))
    by_cases hm : s.Items[k].Id ∈ r.Ids
    · refine cnd_t (decide_eq_true hm) (bnd hx (bnd hg (bnd rfl ?_)))
      refine bnd (x := k) (ixO_of (by rw [List.length_set, upd_len]; exact hk)) (bnd (x := ⟨s.Items[k].Id, s.Items[k].Mail, 2, s.Items[k].Pack⟩) ?_ (bnd rfl ?_))
      · simp only [getO]
        rw [List.getElem?_set_self (by rw [upd_len]; exact hk)]
      · rw [List.set_set, upd_set (f2 r.Ids r.Number) hk _ (by simp only [f2, if_pos hm])]
    · exact cnd_f (decide_eq_false hm) (by rw [upd_same (f2 r.Ids r.Number) hk (by simp only [f2, if_neg hm])])
  · exact cnd_f (decide_eq_false (by omega)) (by simp only [upd_all])
theorem loop3 (s : T_Spool) (r : T_Rec) (hl : s.Items.length < 1000000) : loopF (ap3 s r) BIG (s.Items, 0) = some (.inl (s.Items.map (f3 r.Number))) := by
  refine loop_from (fun k => (upd (f3 r.Number) k s.Items, (k : Int))) s.Items.length BIG rfl (by simp only [BIG]; omega) (fun k hk => ?_) ?_
  · have hx : ixO (k : Int) (upd (f3 r.Number) k s.Items).length = some k := ixO_of (by rw [upd_len]; exact hk)
    have hg := upd_get (f3 r.Number) hk
    refine cnd_t (decide_eq_true (by omega)) (bndL (s := upd (f3 r.Number) (k + 1) s.Items) (bnd hx (bnd hg ?_)) (bnd (congrArg some (wrap_succ (n := k) (by omega))) rfl))
    by_cases hm : s.Items[k].Pack = r.Number
    · refine cnd_t (beq_iff_eq.2 hm) (bnd hx (bnd hg (bnd rfl ?_)))
      rw [upd_set (f3 r.Number) hk _ (by simp only [f3, if_pos hm])]
    · exact cnd_f (beq_eq_false_iff_ne.2 hm) (by rw [upd_same (f3 r.Number) hk (by simp only [f3, if_neg hm])])
  · exact cnd_f (decide_eq_false (by omega)) (by simp only [upd_all])
theorem wt_at {s : T_Spool} {n : Int} (h : wt s n = true) : ∃ (k : Nat) (hk : k < s.Items.length), n = (k : Int) + 1 ∧ s.Items[k].State = 1 := by
  simp only [wt, Bool.and_eq_true, decide_eq_true_eq] at h
  obtain ⟨⟨h1, h2⟩, h3⟩ := h
  refine ⟨(n - 1).toNat, by omega, by omega, ?_⟩
  rw [List.getElem?_eq_getElem (by omega)] at h3
  simpa using h3
theorem set4 {s : T_Spool} (hid : Ids s) {k : Nat} (hk : k < s.Items.length) : s.Items.set k ⟨s.Items[k].Id, s.Items[k].Mail, 4, s.Items[k].Pack⟩ = s.Items.map (f4 ((k : Int) + 1)) := by
  refine List.ext_getElem (by simp) fun i h1 h2 => ?_
  have hi : i < s.Items.length := by simpa using h2
  rw [List.getElem_map, List.getElem_set]
  by_cases h : k = i
  · subst h
    rw [if_pos rfl]
    simp only [f4, if_pos (hid k hk)]
  · rw [if_neg h]
    have := hid i hi
    simp only [f4]
    rw [if_neg (by omega)]
theorem apply_eq {n : Nat} {s : T_Spool} {r : T_Rec} (hs : Inv n s) (hr : Rok r) (ho : okS s r = true) : spool_apply s r = some (eff s r) := by
  have hl := hs.len; have hn := hs.hn; have hp := hs.part; have hse := hs.sent; have hd := hs.done
  have hd6 := hr.1.1; have hi6 := hr.1.2.1
  unfold spool_apply eff
  unfold okS at ho
  rw [Bool.and_eq_true] at ho
  replace ho := ho.2
  by_cases k1 : r.Kind = 1
  · rw [if_pos k1]
    have hA : ∀ st : Int, ((clone_Mail r.Mail).bind fun v8 => (appO 144 s.Items [(T_Item.mk r.Id v8 st 0)]).bind fun v9 => some (.inl (v9, s.Packs, s.Sent, s.Part, s.Of, s.Done) : _ ⊕ T_Spool)) = some (.inl (s.Items ++ [⟨r.Id, r.Mail, st, 0⟩], s.Packs, s.Sent, s.Part, s.Of, s.Done)) := fun st =>
      bnd (clone_mail hr.1.2.2) (bnd (app_of (by simp only [List.length_cons, List.length_nil]; omega) (by simp only [List.length_cons, List.length_nil]; omega)) rfl)
    by_cases a : r.Origin = 0
    · rw [if_pos a]
      exact bndL (cnd_t (beq_iff_eq.2 k1) (bndL (s := 3) (cnd_t (beq_iff_eq.2 a) rfl) (hA 3))) rfl
    · rw [if_neg a]
      exact bndL (cnd_t (beq_iff_eq.2 k1) (bndL (s := 1) (cnd_f (beq_eq_false_iff_ne.2 a) rfl) (hA 1))) rfl
  rw [if_neg k1] at ho ⊢
  by_cases k2 : r.Kind = 2
  · rw [if_pos k2]
    exact bndL (cnd_f (beq_eq_false_iff_ne.2 k1) (cnd_t (beq_iff_eq.2 k2) (bndL (loop2 s r (by omega) (by omega)) rfl))) rfl
  rw [if_neg k2] at ho ⊢
  by_cases k3 : r.Kind = 3
  · rw [if_pos k3]
    refine bndL (cnd_f (beq_eq_false_iff_ne.2 k1) (cnd_f (beq_eq_false_iff_ne.2 k2) (cnd_t (beq_iff_eq.2 k3) (bndL (loop3 s r (by omega)) (bnd (app_of ?_ ?_) rfl))))) rfl
    · simp only [List.length_cons, List.length_nil]; omega
    · simp only [List.length_cons, List.length_nil]; omega
  rw [if_neg k3] at ho ⊢
  by_cases k4 : r.Kind = 4
  · rw [if_pos k4] at ho ⊢
    obtain ⟨k, hk, he, _⟩ := wt_at ho
    have hf := find_eq s hs.ids (by omega) r.Id
    rw [if_pos (by omega), he, Int.add_sub_cancel] at hf
    rw [he, ← set4 hs.ids hk]
    exact bndL (cnd_f (beq_eq_false_iff_ne.2 k1) (cnd_f (beq_eq_false_iff_ne.2 k2) (cnd_f (beq_eq_false_iff_ne.2 k3) (cnd_t (beq_iff_eq.2 k4) (bnd (he ▸ hf) (bnd (ixO_of hk) (bnd (by simp [getO, hk] : getO s.Items k = some s.Items[k]) (bnd rfl rfl)))))))) rfl
  rw [if_neg k4] at ho ⊢
  by_cases k5 : r.Kind = 5
  · rw [if_pos k5] at ho ⊢
    by_cases a : r.Offset = 0
    · rw [if_pos a, if_pos a]
      exact bndL (cnd_f (beq_eq_false_iff_ne.2 k1) (cnd_f (beq_eq_false_iff_ne.2 k2) (cnd_f (beq_eq_false_iff_ne.2 k3) (cnd_f (beq_eq_false_iff_ne.2 k4) (cnd_t (beq_iff_eq.2 k5) (bndL (cnd_t (beq_iff_eq.2 a) rfl) (bnd (app_nil (by omega) (by omega)) rfl))))))) rfl
    · rw [if_neg a, if_neg a]
      exact bndL (cnd_f (beq_eq_false_iff_ne.2 k1) (cnd_f (beq_eq_false_iff_ne.2 k2) (cnd_f (beq_eq_false_iff_ne.2 k3) (cnd_f (beq_eq_false_iff_ne.2 k4) (cnd_t (beq_iff_eq.2 k5) (bndL (cnd_f (beq_eq_false_iff_ne.2 a) rfl) (bnd (app_of (by omega) (by omega)) rfl))))))) rfl
  rw [if_neg k5] at ho ⊢
  by_cases k6 : r.Kind = 6
  · by_cases a : s.Of = r.Number
    · rw [if_pos a, if_pos a]
      exact bndL (cnd_f (beq_eq_false_iff_ne.2 k1) (cnd_f (beq_eq_false_iff_ne.2 k2) (cnd_f (beq_eq_false_iff_ne.2 k3) (cnd_f (beq_eq_false_iff_ne.2 k4) (cnd_f (beq_eq_false_iff_ne.2 k5) (cnd_t (beq_iff_eq.2 k6) ((done_ins s.Done r.Number hs.srt (by omega) _).trans (cnd_t (beq_iff_eq.2 a) rfl)))))))) rfl
    · rw [if_neg a, if_neg a]
      exact bndL (cnd_f (beq_eq_false_iff_ne.2 k1) (cnd_f (beq_eq_false_iff_ne.2 k2) (cnd_f (beq_eq_false_iff_ne.2 k3) (cnd_f (beq_eq_false_iff_ne.2 k4) (cnd_f (beq_eq_false_iff_ne.2 k5) (cnd_t (beq_iff_eq.2 k6) ((done_ins s.Done r.Number hs.srt (by omega) _).trans (cnd_f (beq_eq_false_iff_ne.2 a) rfl)))))))) rfl
  · rw [if_neg k6] at ho; cases ho
theorem okS_ok {s : T_Spool} {r : T_Rec} (h : okS s r = true) : (r.Kind = 1 ∧ s.Items.length < 60 ∧ r.Id = (s.Items.length : Int) + 1 ∧ (r.Origin = 0 ∨ r.Origin = 1)) ∨ (r.Kind = 2 ∧ r.Number = s.Packs + 1 ∧ idsB s r.Ids = true) ∨ (r.Kind = 3 ∧ 1 ≤ r.Number ∧ r.Number ≤ s.Packs ∧ r.Number ∉ s.Sent) ∨ (r.Kind = 4 ∧ wt s r.Id = true) ∨ (r.Kind = 5 ∧ opn s r.Number = true ∧ ckB s r = true) ∨ (r.Kind = 6 ∧ opn s r.Number = true) := by
  unfold okS at h
  rw [Bool.and_eq_true] at h
  replace h := h.2
  by_cases k1 : r.Kind = 1
  · rw [if_pos k1, Bool.and_eq_true] at h; exact .inl ⟨k1, of_decide_eq_true h.1⟩
  rw [if_neg k1] at h
  by_cases k2 : r.Kind = 2
  · rw [if_pos k2, Bool.and_eq_true] at h; exact .inr (.inl ⟨k2, of_decide_eq_true h.1, h.2⟩)
  rw [if_neg k2] at h
  by_cases k3 : r.Kind = 3
  · rw [if_pos k3] at h; exact .inr (.inr (.inl ⟨k3, of_decide_eq_true h⟩))
  rw [if_neg k3] at h
  by_cases k4 : r.Kind = 4
  · rw [if_pos k4] at h; exact .inr (.inr (.inr (.inl ⟨k4, h⟩)))
  rw [if_neg k4] at h
  by_cases k5 : r.Kind = 5
  · rw [if_pos k5, Bool.and_eq_true] at h; exact .inr (.inr (.inr (.inr (.inl ⟨k5, h⟩))))
  rw [if_neg k5] at h
  by_cases k6 : r.Kind = 6
  · rw [if_pos k6] at h; exact .inr (.inr (.inr (.inr (.inr ⟨k6, h⟩))))
  rw [if_neg k6] at h; cases h
theorem eff1 {s : T_Spool} {r : T_Rec} (h : r.Kind = 1) : eff s r = ⟨s.Items ++ [⟨r.Id, r.Mail, if r.Origin = 0 then 3 else 1, 0⟩], s.Packs, s.Sent, s.Part, s.Of, s.Done⟩ := by unfold eff; rw [if_pos h]
theorem eff2 {s : T_Spool} {r : T_Rec} (h : r.Kind = 2) : eff s r = ⟨s.Items.map (f2 r.Ids r.Number), r.Number, s.Sent, s.Part, s.Of, s.Done⟩ := by unfold eff; rw [if_neg (by omega), if_pos h]
theorem eff3 {s : T_Spool} {r : T_Rec} (h : r.Kind = 3) : eff s r = ⟨s.Items.map (f3 r.Number), s.Packs, s.Sent ++ [r.Number], s.Part, s.Of, s.Done⟩ := by unfold eff; rw [if_neg (by omega), if_neg (by omega), if_pos h]
theorem eff4 {s : T_Spool} {r : T_Rec} (h : r.Kind = 4) : eff s r = ⟨s.Items.map (f4 r.Id), s.Packs, s.Sent, s.Part, s.Of, s.Done⟩ := by unfold eff; rw [if_neg (by omega), if_neg (by omega), if_neg (by omega), if_pos h]
theorem eff5 {s : T_Spool} {r : T_Rec} (h : r.Kind = 5) : eff s r = ⟨s.Items, s.Packs, s.Sent, if r.Offset = 0 then r.Data else s.Part ++ r.Data, if r.Offset = 0 then r.Number else s.Of, s.Done⟩ := by unfold eff; rw [if_neg (by omega), if_neg (by omega), if_neg (by omega), if_neg (by omega), if_pos h]
theorem eff6 {s : T_Spool} {r : T_Rec} (h : r.Kind = 6) : eff s r = ⟨s.Items, s.Packs, s.Sent, if s.Of = r.Number then [] else s.Part, if s.Of = r.Number then -1 else s.Of, insS s.Done r.Number⟩ := by unfold eff; rw [if_neg (by omega), if_neg (by omega), if_neg (by omega), if_neg (by omega), if_neg (by omega)]
theorem f2_id (l : List Int) (n : Int) (x : T_Item) : (f2 l n x).Id = x.Id ∧ (f2 l n x).Mail = x.Mail := by unfold f2; split <;> exact ⟨rfl, rfl⟩
theorem f3_id (n : Int) (x : T_Item) : (f3 n x).Id = x.Id ∧ (f3 n x).Mail = x.Mail := by unfold f3; split <;> exact ⟨rfl, rfl⟩
theorem f4_id (n : Int) (x : T_Item) : (f4 n x).Id = x.Id ∧ (f4 n x).Mail = x.Mail := by unfold f4; split <;> exact ⟨rfl, rfl⟩
theorem inv_map {s : T_Spool} (f : T_Item → T_Item) (hf : ∀ x, (f x).Id = x.Id ∧ (f x).Mail = x.Mail) (hi : Ids s) (hm : ∀ x ∈ s.Items, LM x.Mail) {p : Int} {a b d : List Int} {o : Int} : Ids ⟨s.Items.map f, p, a, b, o, d⟩ ∧ ∀ x ∈ s.Items.map f, LM x.Mail := by
  refine ⟨fun i h => ?_, fun x hx => ?_⟩
  · have h' : i < s.Items.length := by simpa using h
    show ((s.Items.map f)[i]'h).Id = _
    rw [List.getElem_map, (hf _).1]
    exact hi i h'
  · obtain ⟨y, hy, rfl⟩ := List.mem_map.1 hx
    rw [(hf y).2]; exact hm y hy
theorem inv_eff {n : Nat} {s : T_Spool} {r : T_Rec} (hn1 : n + 1 < 1000000) (hs : Inv n s) (hr : Rok r) (ho : okS s r = true) : Inv (n + 1) (eff s r) := by
  have hl := hs.len; have hp := hs.part; have hse := hs.sent; have hd := hs.done; have hpk := hs.packs
  rcases okS_ok ho with ⟨k, a, b, c⟩ | ⟨k, a, b⟩ | ⟨k, a, b, c⟩ | ⟨k, a⟩ | ⟨k, a, b⟩ | ⟨k, a⟩
  · rw [eff1 k]
    refine ⟨hn1, by simp; omega, fun i h => ?_, fun x hx => ?_, ⟨hpk.1, (by omega : s.Packs ≤ ((n + 1 : Nat) : Int))⟩, Nat.le_succ_of_le hse, hp, Nat.le_succ_of_le hd, hs.srt⟩
    · have h' : i < s.Items.length + 1 := by simpa using h
      show ((s.Items ++ [_])[i]'h).Id = _
      by_cases hi : i < s.Items.length
      · rw [List.getElem_append_left hi]; exact hs.ids i hi
      · rw [List.getElem_append_right (by omega)]
        have e : i - s.Items.length = 0 := by omega
        simp only [e, List.getElem_cons_zero]
        rw [b]; omega
    · rcases List.mem_append.1 hx with h | h
      · exact hs.lm x h
      · rw [List.mem_singleton.1 h]; exact hr.1.2.2
  · rw [eff2 k]
    have hm := inv_map (f2 r.Ids r.Number) (f2_id _ _) hs.ids hs.lm (p := r.Number) (a := s.Sent) (b := s.Part) (o := s.Of) (d := s.Done)
    refine ⟨hn1, by simp; omega, hm.1, hm.2, ⟨by show 0 ≤ r.Number; omega, by show r.Number ≤ _; omega⟩, Nat.le_succ_of_le hse, hp, Nat.le_succ_of_le hd, hs.srt⟩
  · rw [eff3 k]
    have hm := inv_map (f3 r.Number) (f3_id _) hs.ids hs.lm (p := s.Packs) (a := s.Sent ++ [r.Number]) (b := s.Part) (o := s.Of) (d := s.Done)
    refine ⟨hn1, by simp; omega, hm.1, hm.2, ⟨hpk.1, (by omega : s.Packs ≤ ((n + 1 : Nat) : Int))⟩, (by simp; omega), hp, Nat.le_succ_of_le hd, hs.srt⟩
  · rw [eff4 k]
    have hm := inv_map (f4 r.Id) (f4_id _) hs.ids hs.lm (p := s.Packs) (a := s.Sent) (b := s.Part) (o := s.Of) (d := s.Done)
    refine ⟨hn1, by simp; omega, hm.1, hm.2, ⟨hpk.1, (by omega : s.Packs ≤ ((n + 1 : Nat) : Int))⟩, Nat.le_succ_of_le hse, hp, Nat.le_succ_of_le hd, hs.srt⟩
  · rw [eff5 k]
    refine ⟨hn1, Nat.le_succ_of_le hl, hs.ids, hs.lm, ⟨hpk.1, (by omega : s.Packs ≤ ((n + 1 : Nat) : Int))⟩, Nat.le_succ_of_le hse, ?_, Nat.le_succ_of_le hd, hs.srt⟩
    simp only [ckB, Bool.and_eq_true, Bool.or_eq_true, decide_eq_true_eq] at b
    show (if r.Offset = 0 then r.Data else s.Part ++ r.Data).length ≤ 5000
    split
    · omega
    · rw [List.length_append]; omega
  · rw [eff6 k]
    have hnd : r.Number ∉ s.Done := by
      simp only [opn, Bool.and_eq_true, Bool.not_eq_true', decide_eq_false_iff_not] at a
      exact a.2
    refine ⟨hn1, Nat.le_succ_of_le hl, hs.ids, hs.lm, ⟨hpk.1, (by omega : s.Packs ≤ ((n + 1 : Nat) : Int))⟩, Nat.le_succ_of_le hse, ?_, by show (insS s.Done r.Number).length ≤ _; rw [insS_len]; omega, insS_srt hs.srt hnd⟩
    show (if s.Of = r.Number then [] else s.Part).length ≤ 5000
    split
    · simp
    · exact hp
theorem inv_new : Inv 0 ⟨[], 0, [], [], -1, []⟩ := ⟨by omega, by simp, fun i h => absurd h (by simp), by simp, ⟨by simp, by simp⟩, by simp, by simp, by simp, List.Pairwise.nil⟩
def foldS : T_Spool → List T_Rec → T_Spool × Nat
  | s, [] => (s, 0)
  | s, r :: l => if okS s r = true then ((foldS (eff s r) l).1, (foldS (eff s r) l).2 + 1) else (s, 0)
def newSp : T_Spool := ⟨[], 0, [], [], -1, []⟩
def foS (l : List T_Rec) : ((List T_Item) × Int × (List Int) × (List Int) × Int × (List Int) × Int) → Option (((List T_Item) × Int × (List Int) × (List Int) × Int × (List Int) × Int) ⊕ (((List T_Item) × Int × (List Int) × (List Int) × Int × (List Int)) ⊕ (T_Spool × Int))) := (fun ((s18, s19, s20, s21, s22, s23, s24) : (List T_Item) × Int × (List Int) × (List Int) × Int × (List Int) × Int) =>
      cond ((decide (s24 < (l.length : Int))))
        ((ixO s24 l.length).bind fun v3 =>
        (getO l v3).bind fun v4 =>
        (spool_valid (T_Spool.mk s18 s19 s20 s21 s22 s23) ((T_Rec.mk v4.Kind ((T_Mail.mk (T_Path.mk v4.Mail.From.Null v4.Mail.From.Local v4.Mail.From.Domain) v4.Mail.To v4.Mail.Body v4.Mail.Quiet v4.Mail.Helo v4.Mail.At)) v4.Id v4.Ids v4.Origin v4.Number v4.Offset v4.Data))).bind fun v5 =>
        cond ((!v5))
          (some (.inr (.inr (((T_Spool.mk s18 s19 s20 s21 s22 s23), s24)))))
          ((spool_apply (T_Spool.mk s18 s19 s20 s21 s22 s23) ((T_Rec.mk v4.Kind ((T_Mail.mk (T_Path.mk v4.Mail.From.Null v4.Mail.From.Local v4.Mail.From.Domain) v4.Mail.To v4.Mail.Body v4.Mail.Quiet v4.Mail.Helo v4.Mail.At)) v4.Id v4.Ids v4.Origin v4.Number v4.Offset v4.Data))).bind fun v7 =>
          (some (IntKind.i64.wrap (s24 + 1))).bind fun v8 =>
          some (.inl (v7.Items, v7.Packs, v7.Sent, v7.Part, v7.Of, v7.Done, v8))))
        (some (.inr (.inl (s18, s19, s20, s21, s22, s23)))))
theorem fold_loop (l : List T_Rec) (hr : ∀ r ∈ l, Rok r) (hl : l.length < 999999) : ∀ (d i : Nat) (s : T_Spool) (fuel : Nat), i + d = l.length → d < fuel → Inv i s →
    bindS (S := ((List T_Item) × Int × (List Int) × (List Int) × Int × (List Int))) (A := (T_Spool × Int)) (loopF (foS l) fuel (s.Items, s.Packs, s.Sent, s.Part, s.Of, s.Done, (i : Int))) (fun ((s27, s28, s29, s30, s31, s32) : (List T_Item) × Int × (List Int) × (List Int) × Int × (List Int)) =>
      some (((T_Spool.mk s27 s28 s29 s30 s31 s32), (l.length : Int)))) some = some ((foldS s (l.drop i)).1, ((i + (foldS s (l.drop i)).2 : Nat) : Int))
  | d, i, s, 0, _, hf, _ => absurd hf (Nat.not_lt_zero d)
  | 0, i, s, fuel + 1, hd, _, hs => by
    obtain rfl : i = l.length := by omega
    rw [List.drop_length]
    exact bndL (loop_exit (cnd_f (decide_eq_false (by omega)) rfl)) rfl
  | d + 1, i, s, fuel + 1, hd, hf, hs => by
    have hi : i < l.length := by omega
    have hri := hr _ (List.getElem_mem hi)
    rw [List.drop_eq_getElem_cons hi]
    simp only [foldS]
    by_cases ho : okS s l[i] = true
    · rw [if_pos ho]
      have ih := fold_loop l hr hl d (i + 1) (eff s l[i]) fuel (by omega) (by omega) (inv_eff (by omega) hs hri ho)
      rw [show i + ((foldS (eff s l[i]) (l.drop (i + 1))).2 + 1) = i + 1 + (foldS (eff s l[i]) (l.drop (i + 1))).2 from by omega, ← ih, loop_next]
      refine cnd_t (decide_eq_true (by omega)) (bnd (ixO_of hi) (bnd (by simp [getO, hi] : getO l i = some l[i]) (bnd (valid_eq hs hri) (cnd_f (by rw [ho]; rfl) (bnd (apply_eq hs hri ho) (bnd (congrArg some (wrap_succ (n := i) (by omega))) rfl))))))
    · rw [if_neg ho]
      have ho' : (!okS s l[i]) = true := by simpa using ho
      exact bndR (a := (s, (i : Int))) (loop_exit (cnd_t (decide_eq_true (by omega)) (bnd (ixO_of hi) (bnd (by simp [getO, hi] : getO l i = some l[i]) (bnd (valid_eq hs hri) (cnd_t ho' rfl)))))) rfl
theorem fold_eq (l : List T_Rec) (hr : ∀ r ∈ l, Rok r) (hl : l.length < 999999) : spool_Fold l = some ((foldS newSp l).1, ((foldS newSp l).2 : Int)) := by
  unfold spool_Fold
  have h := fold_loop l hr hl l.length 0 newSp BIG (by omega) (by simp only [BIG]; omega) inv_new
  rw [List.drop_zero, Nat.zero_add] at h
  exact bnd rfl h
theorem foldS_le : ∀ (s : T_Spool) (l : List T_Rec), (foldS s l).2 ≤ l.length
  | s, [] => Nat.le_refl _
  | s, r :: l => by
    simp only [foldS]
    split
    · have := foldS_le (eff s r) l
      simp only [List.length_cons]; omega
    · simp
theorem foldS_inv : ∀ (l : List T_Rec) (s : T_Spool) (i : Nat), i + l.length < 1000000 → (∀ r ∈ l, Rok r) → Inv i s → Inv (i + (foldS s l).2) (foldS s l).1
  | [], s, i, _, _, hs => hs
  | r :: l, s, i, hl, hr, hs => by
    simp only [foldS]
    simp only [List.length_cons] at hl
    split
    · rename_i ho
      have := foldS_inv l (eff s r) (i + 1) (by omega) (fun x hx => hr x (List.mem_cons_of_mem _ hx)) (inv_eff (by omega) hs (hr r List.mem_cons_self) ho)
      simpa [Nat.add_assoc, Nat.add_comm 1] using this
    · exact hs
/-! Records one after the other. -/
theorem rok_of {r : T_Rec} (h : T_Rec.wz r) (hl : LR r) : Rok r := by
  refine ⟨hl, fun x hx => ?_⟩
  obtain ⟨_, ⟨_, _, ⟨_, h4⟩, _⟩, _⟩ := h
  have := h4 x hx
  simp only [wfI, Lit.wf, IntKind.min, IntKind.max, IntKind.signed, IntKind.bits] at this
  have h2 : 0 ≤ x ∧ x ≤ 255 := by simpa using this
  omega
theorem heavy_rok (l : List T_Rec) (hw : wzL 208 T_Rec.wz l) : ∃ b, wherrylaw18_Heavy l = some b ∧ (b = false → l.length ≤ 60 ∧ ∀ r ∈ l, Rok r) := by
  have hl := hw.1
  simp only [reachBytes] at hl
  obtain ⟨b, h, hb⟩ := heavy18 l (fun r hr => re_of (hw.2 r hr)) (by omega)
  exact ⟨b, h, fun e => ⟨(hb e).1, fun r hr => rok_of (hw.2 r hr) ((hb e).2 r hr)⟩⟩
end Go.Abs.Sh
