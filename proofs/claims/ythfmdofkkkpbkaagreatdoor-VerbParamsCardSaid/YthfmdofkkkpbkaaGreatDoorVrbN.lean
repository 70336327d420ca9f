import Derived.Test.YthfmdofkkkpbkaaGreatDoorVrbW
namespace Go.Abs.Sh
set_option linter.unusedVariables false
set_option linter.unusedSimpArgs false
set_option maxRecDepth 100000
def digA : Nat → Nat → List Int → List Int
  | 0, n, acc => (48 + (n : Int)) :: acc
  | k + 1, n, acc => if n ≤ 9 then (48 + (n : Int)) :: acc else digA k (n / 10) ((48 + ((n % 10 : Nat) : Int)) :: acc)
theorem digA_ok : ∀ (k n : Nat) (acc : List Int), n < 10 ^ (k + 1) → ∃ h t, digA (k + 1) n acc = h :: (t ++ acc) ∧ (48 ≤ h ∧ h ≤ 57) ∧ t.length ≤ k ∧ t.all dgB = true ∧ (h = 48 → n = 0 ∧ t = [])
  | k, n, acc, hn => by
    unfold digA
    by_cases h9 : n ≤ 9
    · rw [if_pos h9]
      exact ⟨48 + (n : Int), [], rfl, by omega, Nat.zero_le _, rfl, fun h => ⟨by omega, rfl⟩⟩
    · rw [if_neg h9]
      cases k with
      | zero => simp at hn; omega
      | succ k =>
        have hn2 : n / 10 < 10 ^ (k + 1) := by
          rw [Nat.pow_succ] at hn
          omega
        obtain ⟨h, t, e, hh, hl, ht, hz⟩ := digA_ok k (n / 10) ((48 + ((n % 10 : Nat) : Int)) :: acc) hn2
        refine ⟨h, t ++ [48 + ((n % 10 : Nat) : Int)], by rw [e]; simp, hh, by simp; omega, ?_, fun h0 => ?_⟩
        · rw [List.all_append, ht, Bool.true_and, List.all_cons, List.all_nil, Bool.and_true]
          unfold dgB
          rw [decide_eq_true (by omega), decide_eq_true (by omega)]; rfl
        · have := (hz h0).1; omega
def digN (n : Nat) : List Int := digA 9 n []
theorem digN_num (n : Nat) (h : n < 1000000000) : numB (digN n) = true ∧ digN n ≠ [] := by
  obtain ⟨c, t, e, hc, hl, ht, hz⟩ := digA_ok 8 n [] h
  have e2 : digN n = c :: t := by unfold digN; rw [e]; simp
  rw [e2]
  refine ⟨?_, by simp⟩
  unfold numB
  have hd : dgB c = true := by unfold dgB; rw [decide_eq_true hc.1, decide_eq_true hc.2]; rfl
  rw [List.isEmpty_cons, decide_eq_true (by simp; omega), List.all_cons, hd, ht, List.head?_cons]
  by_cases h0 : c = 48
  · obtain ⟨_, rfl⟩ := hz h0
    rw [h0]; rfl
  · have : (some c == some (48 : Int)) = false := beq_eq_false_iff_ne.2 fun h => h0 (Option.some.inj h)
    rw [this]; rfl
def tenS : ByteArray := ⟨#[48, 49, 50, 51, 52, 53, 54, 55, 56, 57]⟩
theorem ten_all : (List.range 10).all (fun k => decide (subO tenS ((k : Nat) : Int) ((k + 1 : Nat) : Int) = some (bstr [48 + ((k : Nat) : Int)]))) = true := by kernel_rfl
theorem ten {k : Nat} (h : k < 10) : subO tenS (k : Int) ((k + 1 : Nat) : Int) = some (bstr [48 + (k : Int)]) := by
  have := List.all_eq_true.1 ten_all k (List.mem_range.2 h)
  exact of_decide_eq_true this
theorem digits_eq (n : Nat) (h : n < 1000000000) : wherryref11_Digits (n : Int) = some (bstr (digN n)) := by
  unfold wherryref11_Digits
  have key : ∀ (k n : Nat) (acc : List Int) (fuel : Nat), n < 10 ^ (k + 1) → n < 9000000000000000000 → k < fuel → byt acc → acc.length + k < 1000 →
      bindS (S := (Int × ByteArray)) (A := ByteArray)
    (loopF (S := (Int × ByteArray)) (O := (Int × ByteArray) ⊕ ByteArray) (fun ((s11, s12) : Int × ByteArray) =>
      cond ((decide (9 < s11)))
        ((remO s11 10).bind fun v2 =>
        (remO s11 10).bind fun v3 =>
        (some (IntKind.i64.wrap (v3 + 1))).bind fun v4 =>
        (subO (⟨#[48, 49, 50, 51, 52, 53, 54, 55, 56, 57]⟩ : ByteArray) v2 v4).bind fun v5 =>
        (catO v5 s12).bind fun v6 =>
        (quoO .i64 s11 10).bind fun v7 =>
        some (.inl (v7, v6)))
        (some (.inr (.inl (s11, s12)))))
      fuel ((n : Int), bstr acc))
    (fun ((s14, s15) : Int × ByteArray) =>
      (some (IntKind.i64.wrap (s14 + 1))).bind fun v23 =>
      (subO (⟨#[48, 49, 50, 51, 52, 53, 54, 55, 56, 57]⟩ : ByteArray) s14 v23).bind fun v24 =>
      (catO v24 s15).bind fun v25 =>
      some (v25)) some = some (bstr (digA (k + 1) n acc)) := by
    intro k
    induction k with
    | zero =>
      intro n acc fuel hn _ hf hb hl
      cases fuel with
      | zero => omega
      | succ fuel =>
        have h9 : n ≤ 9 := by simp at hn; omega
        have hd : byt [48 + (n : Int)] := byt_cons (by omega) byt_nil
        unfold digA
        rw [if_pos h9]
        refine bndL (loop_exit (cnd_f (decide_eq_false (by omega)) rfl)) (bnd (by rw [wrap_succ (by omega)]) (bnd (ten (by omega)) (bnd (catL (sbytes_bstr hd) (sbytes_bstr hb) (by simp; omega)) rfl)))
    | succ k ih =>
      intro n acc fuel hn hbig hf hb hl
      cases fuel with
      | zero => omega
      | succ fuel =>
        by_cases h9 : n ≤ 9
        · have hd : byt [48 + (n : Int)] := byt_cons (by omega) byt_nil
          unfold digA
          rw [if_pos h9]
          refine bndL (loop_exit (cnd_f (decide_eq_false (by omega)) rfl)) (bnd (by rw [wrap_succ (by omega)]) (bnd (ten (by omega)) (bnd (catL (sbytes_bstr hd) (sbytes_bstr hb) (by simp; omega)) rfl)))
        · have hd : byt [48 + ((n % 10 : Nat) : Int)] := byt_cons (by omega) byt_nil
          have hr : remO (n : Int) 10 = some ((n % 10 : Nat) : Int) := rem_nat n 10 (by decide)
          have hq : quoO .i64 (n : Int) 10 = some ((n / 10 : Nat) : Int) := quo_nat n 10 (by decide) (by omega)
          have hn2 : n / 10 < 10 ^ (k + 1) := by
            rw [Nat.pow_succ] at hn
            omega
          have hih := ih (n / 10) ((48 + ((n % 10 : Nat) : Int)) :: acc) fuel hn2 (by omega) (by omega) (byt_cons (by omega) hb) (by simp; omega)
          have e : digA (k + 1 + 1) n acc = digA (k + 1) (n / 10) ((48 + ((n % 10 : Nat) : Int)) :: acc) := by
            rw [digA, if_neg h9]
          rw [e, ← hih]
          congr 1
          refine loop_next (cnd_t (decide_eq_true (by omega)) (bnd hr (bnd hr (bnd (by rw [wrap_succ (by omega)]) (bnd (ten (by omega)) (bnd (catL (sbytes_bstr hd) (sbytes_bstr hb) (by simp; omega)) (bnd hq rfl)))))))
  have := key 8 n [] BIG h (by omega) (by simp only [BIG]; omega) byt_nil (by simp)
  exact this
theorem u64_n2 (z : Int) (n : Nat) (h0 : 0 < n) (hn : n < 10000000000) : IntKind.u64.wrap (n : Int) = (n : Int) ∧ ∃ q : Nat, q < n ∧ remO (IntKind.u64.wrap z) (n : Int) = some (q : Int) := by
  have h : ∀ z : Int, IntKind.u64.wrap z = ((z % 18446744073709551616).toNat : Int) := by
    intro z
    simp only [IntKind.wrap, IntKind.bits, IntKind.signed]
    have e : (2 : Int) ^ 64 = 18446744073709551616 := by decide
    simp only [e, Bool.false_and, Bool.false_eq_true, if_false]
    omega
  refine ⟨by rw [h]; omega, ?_⟩
  rw [h]
  exact ⟨_, Nat.mod_lt _ h0, rem_nat _ n h0⟩
theorem cB {A B : List Int} (hA : byt A) (hB : byt B) (h : A.length + B.length ≤ 1000) : catO (bstr A) (bstr B) = some (bstr (A ++ B)) := catL (sbytes_bstr hA) (sbytes_bstr hB) (by omega)
theorem verbParams_true (p : T_Path) (size how : Int) (hp : T_Path.wz p) : wherrylaw12_VerbParams p size how = some true := by
  unfold wherrylaw12_VerbParams
  have hl := wz47 hp.2.1
  have hd := wz47 hp.2.2
  have w1 : some (IntKind.i64.wrap ((p.Local.size : Int) + (p.Domain.size : Int))) = some (((p.Local.size + p.Domain.size : Nat)) : Int) := by
    rw [wrap_i64 (by omega) (by omega)]; simp
  by_cases h200 : 200 < p.Local.size + p.Domain.size
  · exact bndL (s := true) (bnd w1 (cnd_t (decide_eq_true (by omega)) rfl)) (cnd_t rfl rfl)
  have hpe := rpath_eq p
  cases hpat : patB p with
  | false =>
    rw [hpat] at hpe
    exact bndL (s := true) (bnd w1 (cnd_f (decide_eq_false (by omega)) (bnd hpe (cnd_t rfl rfl)))) (cnd_t rfl rfl)
  | true =>
    rw [hpat] at hpe
    cases hnull : p.Null with
    | true => exact bndL (s := true) (bnd w1 (cnd_f (decide_eq_false (by omega)) (bnd hpe (cnd_f rfl rfl)))) (cnd_t rfl rfl)
    | false =>
      refine bndL (s := false) (bnd w1 (cnd_f (decide_eq_false (by omega)) (bnd hpe (cnd_f rfl rfl)))) (cnd_f rfl ?_)
      have hsm : Small p := ⟨by omega, by omega⟩
      have htx := rtext_eq p hsm
      obtain ⟨ti, te, tno, tpr⟩ := txt_split hpat hnull
      have htl : (txtL p).length ≤ 203 := by have := txt_len p; omega
      have htb := byt_txt p
      obtain ⟨_, n, hn, hr⟩ := u64_n2 size 1000000000 (by decide) (by decide)
      obtain ⟨hnum, hne⟩ := digN_num n hn
      have hdg := num_dg hnum
      obtain ⟨dpr, db, dsp⟩ := dg_pr hdg
      have dl : (digN n).length ≤ 9 := by
        simp only [numB, Bool.and_eq_true, decide_eq_true_eq] at hnum; exact hnum.2.1
      have hdig := digits_eq n hn
      have hB1 := boxT (k := 2) hpat hnull
      have hB2 := boxT (k := 3) hpat hnull
      have hBS := boxS (k := 2) hpat hnull
      generalize hT : txtL p = t at *
      generalize hD : digN n = D at *
      have bm : byt wMail := by decide
      have br : byt wRcpt := by decide
      have bS : byt (32 :: wSize) := by decide
      have bS0 : byt (32 :: wSize ++ [48]) := by decide
      have bSS : byt (32 :: 32 :: wSize) := by decide
      have bN : byt [32, 78, 79, 84, 73, 70, 89, 61, 78, 69, 86, 69, 82] := by decide
      have bA : byt [32, 78, 79, 84, 73, 70, 89, 61, 65, 76, 87, 65, 89, 83] := by decide
      have bR : byt [32, 82, 69, 84, 61, 104, 100, 114, 115] := by decide
      have bms : byt (wMail ++ [32]) := by decide
      have lm : wMail.length = 10 := rfl
      have lr : wRcpt.length = 8 := rfl
      have lS : wSize.length = 5 := rfl
      -- the lines
      have m1 := cB bm htb (by omega)
      have b1 := byt_app bm htb
      have m2 := cB b1 bS (by simp only [List.length_append, List.length_cons]; omega)
      have b2 := byt_app b1 bS
      have m3 := cB b2 db (by simp only [List.length_append, List.length_cons]; omega)
      have b3 := byt_app b2 db
      have m4 := cB b3 bS (by simp only [List.length_append, List.length_cons]; omega)
      have b4 := byt_app b3 bS
      have m5 := cB b4 db (by simp only [List.length_append, List.length_cons]; omega)
      have b5 := byt_app b4 db
      have m6 := cB b1 bN (by simp only [List.length_append, List.length_cons, List.length_nil]; omega)
      have b6 := byt_app b1 bN
      have r1 := cB br htb (by omega)
      have c1 := byt_app br htb
      have r2 := cB c1 bS (by simp only [List.length_append, List.length_cons]; omega)
      have c2 := byt_app c1 bS
      have r3 := cB c2 db (by simp only [List.length_append, List.length_cons]; omega)
      have c3 := byt_app c2 db
      have m7 := cB b1 bS0 (by simp only [List.length_append, List.length_cons, List.length_nil]; omega)
      have b7 := byt_app b1 bS0
      have m8 := cB b7 db (by simp only [List.length_append, List.length_cons, List.length_nil]; omega)
      have b8 := byt_app b7 db
      have m9 := cB b1 bSS (by simp only [List.length_append, List.length_cons, List.length_nil]; omega)
      have b9 := byt_app b1 bSS
      have m10 := cB b9 db (by simp only [List.length_append, List.length_cons, List.length_nil]; omega)
      have b10 := byt_app b9 db
      have m11 := cB bms htb (by simp only [List.length_append, List.length_cons, List.length_nil]; omega)
      have b11 := byt_app bms htb
      have r4 := cB c1 bA (by simp only [List.length_append, List.length_cons, List.length_nil]; omega)
      have c4 := byt_app c1 bA
      have m12 := cB b3 bR (by simp only [List.length_append, List.length_cons, List.length_nil]; omega)
      have b12 := byt_app b3 bR
      -- what they are
      have hd32 : (32 : Int) ∉ wSize ++ D := dg_no hdg
      have v0 : vparse (wMail ++ t ++ (32 :: wSize) ++ D ++ (32 :: wSize) ++ D) = (noC, 501) := by
        have e : wMail ++ t ++ (32 :: wSize) ++ D ++ (32 :: wSize) ++ D = openW 2 ++ (t ++ (32 :: (wSize ++ D ++ 32 :: (wSize ++ D)))) := by simp [openW]
        rw [e, vmail (.inl rfl) (by simp only [List.length_append, List.length_cons]; omega) (by simp only [List.all_append, List.all_cons, tpr, dpr]; rfl), hB1]
        have hq : parsL 2 (32 :: (wSize ++ D ++ 32 :: (wSize ++ D))) = none := by
          rw [pars_cons, spl_two hd32 hd32, fold_go (size_yes hnum) rfl, fold_dup (size_yes hnum) (by simp)]
        rw [hq]
      have v1 : vparse (wMail ++ t ++ [32, 78, 79, 84, 73, 70, 89, 61, 78, 69, 86, 69, 82]) = (noC, 501) := by
        have e : wMail ++ t ++ [32, 78, 79, 84, 73, 70, 89, 61, 78, 69, 86, 69, 82] = openW 2 ++ (t ++ [32, 78, 79, 84, 73, 70, 89, 61, 78, 69, 86, 69, 82]) := by simp [openW]
        rw [e, vmail (.inl rfl) (by simp only [List.length_append, List.length_cons, List.length_nil]; omega) (by simp only [List.all_append, List.all_cons, tpr]; rfl), hB1]
        have hq : parsL 2 [32, 78, 79, 84, 73, 70, 89, 61, 78, 69, 86, 69, 82] = none := by kernel_rfl
        rw [hq]
      have v2 : vparse (wRcpt ++ t ++ (32 :: wSize) ++ D) = (noC, 501) := by
        have e : wRcpt ++ t ++ (32 :: wSize) ++ D = openW 3 ++ (t ++ (32 :: (wSize ++ D))) := by simp [openW]
        rw [e, vmail (.inr rfl) (by simp only [List.length_append, List.length_cons]; omega) (by simp only [List.all_append, List.all_cons, tpr, dpr]; rfl), hB2]
        have hq : parsL 3 (32 :: (wSize ++ D)) = none := by
          rw [pars_cons, spl_one hd32, fold_none (size_no D)]
        rw [hq]
      have v3 : vparse (sbytes (⟨#[82, 67, 80, 84, 32, 84, 79, 58, 60, 62]⟩ : ByteArray)) = (noC, 501) := by kernel_rfl
      have v4 : vparse (wMail ++ t ++ (32 :: wSize ++ [48]) ++ D) = (noC, 501) := by
        have e : wMail ++ t ++ (32 :: wSize ++ [48]) ++ D = openW 2 ++ (t ++ (32 :: (wSize ++ 48 :: D))) := by simp [openW]
        rw [e, vmail (.inl rfl) (by simp only [List.length_append, List.length_cons]; omega) (by simp only [List.all_append, List.all_cons, tpr, dpr]; rfl), hB1]
        have hnum0 : numB (48 :: D) = false := by
          unfold numB
          have : decide ((48 : Int) :: D ≠ [48]) = true := decide_eq_true (by simp [hne])
          rw [this]; simp
        have hq : parsL 2 (32 :: (wSize ++ 48 :: D)) = none := by
          rw [pars_cons, spl_one (dg_no (by rw [List.all_cons, hdg]; rfl)), fold_none (size_bad hnum0)]
        rw [hq]
      have v5 : vparse (wMail ++ t ++ (32 :: 32 :: wSize) ++ D) = (noC, 501) := by
        have e : wMail ++ t ++ (32 :: 32 :: wSize) ++ D = openW 2 ++ (t ++ (32 :: 32 :: (wSize ++ D))) := by simp [openW]
        rw [e, vmail (.inl rfl) (by simp only [List.length_append, List.length_cons]; omega) (by simp only [List.all_append, List.all_cons, tpr, dpr]; rfl), hB1]
        have hq : parsL 2 (32 :: 32 :: (wSize ++ D)) = none := by
          have : spl 32 (32 :: (wSize ++ D)) = [] :: spl 32 (wSize ++ D) := rfl
          rw [pars_cons, this, fold_none (by kernel_rfl)]
        rw [hq]
      have v6 : vparse (wMail ++ [32] ++ t) = (noC, 501) := by
        have e : wMail ++ [32] ++ t = openW 2 ++ (32 :: t) := by simp [openW]
        rw [e, vmail (.inl rfl) (by simp only [List.length_cons]; omega) (by simp only [List.all_cons, tpr]; rfl), hBS]
      have v7 : vparse (wRcpt ++ t ++ [32, 78, 79, 84, 73, 70, 89, 61, 65, 76, 87, 65, 89, 83]) = (noC, 501) := by
        have e : wRcpt ++ t ++ [32, 78, 79, 84, 73, 70, 89, 61, 65, 76, 87, 65, 89, 83] = openW 3 ++ (t ++ [32, 78, 79, 84, 73, 70, 89, 61, 65, 76, 87, 65, 89, 83]) := by simp [openW]
        rw [e, vmail (.inr rfl) (by simp only [List.length_append, List.length_cons, List.length_nil]; omega) (by simp only [List.all_append, List.all_cons, tpr]; rfl), hB2]
        have hq : parsL 3 [32, 78, 79, 84, 73, 70, 89, 61, 65, 76, 87, 65, 89, 83] = none := by kernel_rfl
        rw [hq]
      have v8 : vparse (wMail ++ t ++ (32 :: wSize) ++ D ++ [32, 82, 69, 84, 61, 104, 100, 114, 115]) = (⟨2, e0, p, [⟨bstr [83, 73, 90, 69], bstr D⟩, ⟨bstr [82, 69, 84], bstr [72, 68, 82, 83]⟩]⟩, 0) := by
        have e : wMail ++ t ++ (32 :: wSize) ++ D ++ [32, 82, 69, 84, 61, 104, 100, 114, 115] = openW 2 ++ (t ++ (32 :: (wSize ++ D ++ 32 :: [82, 69, 84, 61, 104, 100, 114, 115]))) := by simp [openW]
        rw [e, vmail (.inl rfl) (by simp only [List.length_append, List.length_cons, List.length_nil]; omega) (by simp only [List.all_append, List.all_cons, tpr, dpr]; rfl), hB1]
        have hpr : paramL 2 [82, 69, 84, 61, 104, 100, 114, 115] = some ⟨bstr [82, 69, 84], bstr [72, 68, 82, 83]⟩ := by kernel_rfl
        have hq : parsL 2 (32 :: (wSize ++ D ++ 32 :: [82, 69, 84, 61, 104, 100, 114, 115])) = some [⟨bstr [83, 73, 90, 69], bstr D⟩, ⟨bstr [82, 69, 84], bstr [72, 68, 82, 83]⟩] := by
          have hk : ([] ++ [(⟨bstr [83, 73, 90, 69], bstr D⟩ : T_Param)]).any (fun x => decide (x.Key = (bstr [82, 69, 84]))) = false := by
            have : (bstr [83, 73, 90, 69]) ≠ bstr [82, 69, 84] := fun h => by
              have := congrArg ByteArray.size h
              rw [bstr_size, bstr_size] at this
              cases this
            simp [this]
          rw [pars_cons, spl_two hd32 (by decide), fold_go (size_yes hnum) rfl, fold_go hpr hk]
          rfl
        rw [hq]
      have P : ∀ l, byt l → verb_Parse (bstr l) = some (vparse l) := fun l h => parse_L l h
      obtain ⟨_, q, hq, hrq⟩ := u64_n2 how 8 (by decide) (by decide)
      refine bnd htx (bnd rfl (bnd hr (bnd (some_wrap (by omega) (by omega)) (bnd hdig ?_))))
      refine bnd m1 (bnd m2 (bnd m3 (bnd m4 (bnd m5 (bnd m1 (bnd m6 (bnd r1 (bnd r2 (bnd r3 (bnd m1 (bnd m7 (bnd m8 (bnd m1 (bnd m9 (bnd m10 (bnd m11 (bnd r1 (bnd r4 ?_))))))))))))))))))
      refine bnd rfl (bnd hrq (bnd (some_wrap (by omega) (by omega)) (bnd (ixO_of (n := 8) hq) ?_)))
      have hend : ∀ (v37 : T_Cmd × Int), v37 = (noC, 501) → ((catO (⟨#[77, 65, 73, 76, 32, 70, 82, 79, 77, 58]⟩ : ByteArray) (bstr t)).bind fun v38 =>
        (catO v38 (⟨#[32, 83, 73, 90, 69, 61]⟩ : ByteArray)).bind fun v39 =>
        (catO v39 (bstr D)).bind fun v40 =>
        (catO v40 (⟨#[32, 82, 69, 84, 61, 104, 100, 114, 115]⟩ : ByteArray)).bind fun v41 =>
        (verb_Parse v41).bind fun v42 =>
        (catO (⟨#[77, 65, 73, 76, 32, 70, 82, 79, 77, 58]⟩ : ByteArray) (bstr t)).bind fun v43 =>
        (catO v43 (⟨#[32, 83, 73, 90, 69, 61]⟩ : ByteArray)).bind fun v44 =>
        (catO v44 (bstr D)).bind fun v45 =>
        (catO v45 (⟨#[32, 82, 69, 84, 61, 104, 100, 114, 115]⟩ : ByteArray)).bind fun v46 =>
        cond ((decide (510 < (v46.size : Int))))
          (some (true))
          ((verb_Param ((T_Cmd.mk v42.1.Kind v42.1.Text (T_Path.mk v42.1.Path.Null v42.1.Path.Local v42.1.Path.Domain) v42.1.Params)) (⟨#[83, 73, 90, 69]⟩ : ByteArray)).bind fun v48 =>
          (verb_Param ((T_Cmd.mk v42.1.Kind v42.1.Text (T_Path.mk v42.1.Path.Null v42.1.Path.Local v42.1.Path.Domain) v42.1.Params)) (⟨#[82, 69, 84]⟩ : ByteArray)).bind fun v49 =>
          (verb_Param ((T_Cmd.mk v42.1.Kind v42.1.Text (T_Path.mk v42.1.Path.Null v42.1.Path.Local v42.1.Path.Domain) v42.1.Params)) (⟨#[78, 79, 84, 73, 70, 89]⟩ : ByteArray)).bind fun v50 =>
          bindS (S := Bool) (A := Bool)
            (cond ((v37.2 == 501))
              (cond ((v42.2 == 0))
                (cond (v48.2)
                  (cond ((v48.1.toList == (bstr D).toList))
                    (cond (v49.2)
                      (cond ((v49.1.toList == (⟨#[72, 68, 82, 83]⟩ : ByteArray).toList))
                        (cond ((!v50.2))
                          ((wherrykeep_Path (T_Path.mk v42.1.Path.Null v42.1.Path.Local v42.1.Path.Domain) (T_Path.mk false p.Local p.Domain)).bind fun v51 =>
                          cond (v51)
                            ((wherrylaw12_wakes ).bind fun v52 =>
                            some (.inl v52))
                            (some (.inl false)))
                          (some (.inl false)))
                        (some (.inl false)))
                      (some (.inl false)))
                    (some (.inl false)))
                  (some (.inl false)))
                (some (.inl false)))
              (some (.inl false)))
            (fun (s53 : Bool) =>
              some (s53)) some)) = some true := by
        rintro v37 rfl
        have hpp : T_Path.mk false p.Local p.Domain = p := by
          obtain ⟨a, b, c⟩ := p
          simp only at hnull
          rw [hnull]
        rw [hpp]
        have hP := P _ b12
        rw [v8] at hP
        refine bnd m1 (bnd m2 (bnd m3 (bnd m12 (bnd hP (bnd m1 (bnd m2 (bnd m3 (bnd m12 ?_))))))))
        refine cnd_f (decide_eq_false (by rw [bstr_size]; simp only [List.length_append, List.length_cons, List.length_nil]; omega)) ?_
        have hpar : ∀ key, verb_Param ⟨2, e0, p, [⟨bstr [83, 73, 90, 69], bstr D⟩, ⟨bstr [82, 69, 84], bstr [72, 68, 82, 83]⟩]⟩ key = some (parS [⟨bstr [83, 73, 90, 69], bstr D⟩, ⟨bstr [82, 69, 84], bstr [72, 68, 82, 83]⟩] key) := fun key => vparam_eq _ key (by simp)
        have k1 : parS [⟨bstr [83, 73, 90, 69], bstr D⟩, ⟨bstr [82, 69, 84], bstr [72, 68, 82, 83]⟩] (⟨#[83, 73, 90, 69]⟩ : ByteArray) = (bstr D, true) := rfl
        have k2 : parS [⟨bstr [83, 73, 90, 69], bstr D⟩, ⟨bstr [82, 69, 84], bstr [72, 68, 82, 83]⟩] (⟨#[82, 69, 84]⟩ : ByteArray) = (bstr [72, 68, 82, 83], true) := rfl
        have k3 : parS [⟨bstr [83, 73, 90, 69], bstr D⟩, ⟨bstr [82, 69, 84], bstr [72, 68, 82, 83]⟩] (⟨#[78, 79, 84, 73, 70, 89]⟩ : ByteArray) = (e0, false) := rfl
        have h1 := hpar (⟨#[83, 73, 90, 69]⟩ : ByteArray)
        have h2 := hpar (⟨#[82, 69, 84]⟩ : ByteArray)
        have h3 := hpar (⟨#[78, 79, 84, 73, 70, 89]⟩ : ByteArray)
        rw [k1] at h1
        rw [k2] at h2
        rw [k3] at h3
        have hkp := keepPathC p p
        rw [decide_eq_true rfl] at hkp
        have wk : wherrylaw12_wakes = some true := by kernel_rfl
        exact bnd h1 (bnd h2 (bnd h3 (bndL (s := true) (cnd_t rfl (cnd_t rfl (cnd_t rfl (cnd_t (by simp) (cnd_t rfl (cnd_t (by rw [toList_beq]; exact decide_eq_true rfl) (cnd_t rfl (bnd hkp (cnd_t rfl (bnd wk rfl)))))))))) rfl)))
      have hcases : q = 0 ∨ q = 1 ∨ q = 2 ∨ q = 3 ∨ q = 4 ∨ q = 5 ∨ q = 6 ∨ q = 7 := by omega
      rcases hcases with rfl | rfl | rfl | rfl | rfl | rfl | rfl | rfl
      · refine bnd rfl (bnd (P _ b5) ?_)
        rw [v0]
        have hh := hend (noC, 501) rfl
        exact hh
      · refine bnd rfl (bnd (P _ b6) ?_)
        rw [v1]
        have hh := hend (noC, 501) rfl
        exact hh
      · refine bnd rfl (bnd (P _ c3) ?_)
        rw [v2]
        have hh := hend (noC, 501) rfl
        exact hh
      · refine bnd rfl (bnd (parse_S _) ?_)
        rw [v3]
        have hh := hend (noC, 501) rfl
        exact hh
      · refine bnd rfl (bnd (P _ b8) ?_)
        rw [v4]
        have hh := hend (noC, 501) rfl
        exact hh
      · refine bnd rfl (bnd (P _ b10) ?_)
        rw [v5]
        have hh := hend (noC, 501) rfl
        exact hh
      · refine bnd rfl (bnd (P _ b11) ?_)
        rw [v6]
        have hh := hend (noC, 501) rfl
        exact hh
      · refine bnd rfl (bnd (P _ c4) ?_)
        rw [v7]
        have hh := hend (noC, 501) rfl
        exact hh
end Go.Abs.Sh
