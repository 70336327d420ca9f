import Derived.Test.YtegjndibgnnpcaaAnsY
namespace Go.Abs.Sh
set_option linter.unusedVariables false
set_option linter.unusedSimpArgs false

def xs (n : Nat) : ByteArray := bstr (List.replicate n 120)
theorem byt_x (n : Nat) : byt (List.replicate n 120) := by intro x hx; rw [List.mem_replicate] at hx; omega
theorem xs_size (n : Nat) : (xs n).size = n := by unfold xs; rw [bstr_size, List.length_replicate]
theorem okLine_xs (n : Nat) : okLine (xs n) = decide (n ≤ 200) := by
  unfold okLine
  rw [xs_size]
  have : (sbytes (xs n)).all okByte = true := by
    unfold xs
    rw [sbytes_bstr (byt_x n), List.all_eq_true]
    intro x hx
    rw [List.mem_replicate] at hx
    rw [hx.2]; rfl
  rw [this, Bool.and_true]

theorem accB_lenx (c : Int) (m n : Nat) : ∀ i, i ≤ n → (accB c (List.replicate n (xs m)) i).length = i * (m + 6)
  | 0, _ => by simp [accB]
  | i + 1, h => by
    rw [accB_succ, List.length_append, accB_lenx c m n i (by omega), lineB_len]
    have : (List.replicate n (xs m)).getD i ⟨#[]⟩ = xs m := by simp [List.getD_eq_getElem?_getD, List.getElem?_replicate, show i < n by omega]
    rw [this, xs_size, Nat.add_mul]; omega

theorem answerEnds_true (code lines long : Int) (hw : wfI .i64 code) : wherrylaw13_AnswerEnds code lines long = some true := by
  unfold wherrylaw13_AnswerEnds
  obtain ⟨n, hn, h1⟩ := u64_rem lines 23 (by omega) (by omega)
  obtain ⟨q, hq, h2⟩ := u64_rem long 3 (by omega) (by omega)
  have w1 : IntKind.i64.wrap (n : Int) = (n : Int) := wrap_nat n (by omega)
  have w2 : IntKind.i64.wrap (q : Int) = (q : Int) := wrap_nat q (by omega)
  have w3 : IntKind.i64.wrap (199 + (q : Int)) = ((199 + q : Nat) : Int) := by rw [wrap_i64 (by omega) (by omega)]; simp
  obtain ⟨m, hm⟩ : ∃ m, m = 199 + q := ⟨_, rfl⟩
  rw [← hm] at w3
  refine bnd rfl (bnd h1 (bnd (by rw [w1]) (bnd rfl (bnd h2 (bnd (by rw [w2]) (bnd (by rw [w3]) ?_))))))
  have l1 : loopF (aeS (m : Int)) BIG (⟨#[]⟩ : ByteArray) = some (.inl (xs m)) := by
    refine loop_from (fun i => xs i) m BIG rfl (by unfold BIG; omega) (fun i hi => ?_) (by unfold aeS; exact cnd_f (decide_eq_false (by rw [xs_size]; omega)) rfl)
    unfold aeS
    refine cnd_t (decide_eq_true (by rw [xs_size]; omega)) (bnd (x := xs (i + 1)) ?_ rfl)
    rw [cat_of (by rw [xs_size]; show i + 1 ≤ _; omega)]
    congr 1
    unfold xs
    rw [sbytes_bstr (byt_x i), List.replicate_succ']
    rfl
  have l2 : loopF (ae2S (n : Int) (xs m)) BIG ([], 0) = some (.inl (List.replicate n (xs m))) := by
    refine loop_from (fun i => (List.replicate i (xs m), (i : Int))) n BIG rfl (by unfold BIG; omega) (fun i hi => ?_) (by unfold ae2S; exact cnd_f (decide_eq_false (by omega)) rfl)
    unfold ae2S
    refine cnd_t (decide_eq_true (by omega)) (bnd (x := List.replicate (i + 1) (xs m)) ?_ (bnd (by rw [wrap_succ (by omega)]) rfl))
    rw [app_of (by simp; omega) (by simp; omega), ← List.replicate_succ']
  obtain ⟨R, hR⟩ : ∃ R, R = T_Reply.mk code (List.replicate n (xs m)) := ⟨_, rfl⟩
  have hok : okRep R = (okCode code && decide (1 ≤ n) && decide (n ≤ 20) && decide (m ≤ 200)) := by
    rw [hR]
    unfold okRep
    simp only [List.length_replicate]
    by_cases h0 : 1 ≤ n
    · congr 1
      rw [List.all_replicate, if_neg (by omega), okLine_xs]
    · rw [decide_eq_false h0]; simp
  obtain ⟨t, ht, ht2⟩ := code_tests code
  have hA : (cond ((decide (200 ≤ code)))
                (cond ((decide (code ≤ 559)))
                  ((quoO .i64 code 10).bind fun v39 =>
                  (remO v39 10).bind fun v40 =>
                  cond ((decide (v40 ≤ 5)))
                    (cond ((decide (1 ≤ (n : Int))))
                      (cond ((decide ((n : Int) ≤ 20)))
                        (some (.inl ((decide ((m : Int) ≤ 200)))))
                        (some (.inl false)))
                      (some (.inl false)))
                    (some (.inl false)))
                  (some (.inl false)))
                (some (.inl false)) : Option (Bool ⊕ (Int ⊕ Bool))) = some (.inl (okRep R)) := by
    rw [hok]
    unfold okCode
    by_cases c1 : 200 ≤ code
    · rw [decide_eq_true c1]
      refine cnd_t rfl ?_
      by_cases c2 : code ≤ 559
      · rw [decide_eq_true c2]
        refine cnd_t rfl ?_
        have hb : ∀ (g : Int → Option (Bool ⊕ (Int ⊕ Bool))), ((quoO .i64 code 10).bind fun v1 => (remO v1 10).bind g) = ((quoO .i64 code 10).bind fun v1 => remO v1 10).bind g := fun g => by rw [Option.bind_assoc]
        rw [hb, ht, Option.bind_some, ht2 c1 c2]
        have e1 : decide (1 ≤ (n : Int)) = decide (1 ≤ n) := by rw [Bool.eq_iff_iff]; simp; omega
        have e2 : decide ((n : Int) ≤ 20) = decide (n ≤ 20) := by rw [Bool.eq_iff_iff]; simp; omega
        have e3 : decide ((m : Int) ≤ 200) = decide (m ≤ 200) := by rw [Bool.eq_iff_iff]; simp; omega
        rw [e1, e2, e3]
        cases decide (code / 10 % 10 ≤ 5) <;> cases decide (1 ≤ n) <;> cases decide (n ≤ 20) <;> cases decide (m ≤ 200) <;> rfl
      · rw [decide_eq_false c2]; rfl
    · rw [decide_eq_false c1]; rfl
  refine bndL l1 (bndL l2 (bndL (s := cond (okRep R) 0 5) (bndL hA (by cases okRep R <;> rfl)) ?_))
  rw [← hR]
  have hby := bytes13 R
  have hck := check13 R
  refine bnd hby (bndL (s := false) (bnd hck ?_) (cnd_f rfl ?_))
  · cases okRep R <;> rfl
  · cases hk : okRep R with
    | false => exact bndL (s := false) (cnd_f rfl rfl) (cnd_f rfl (bnd wakes13 rfl))
    | true =>
      have hlen : (repB R).length = n * (m + 6) := by rw [hR]; unfold repB; simp only [List.length_replicate]; exact accB_lenx code m n n (Nat.le_refl _)
      have w4 : IntKind.i64.wrap ((m : Int) + 6) = ((m + 6 : Nat) : Int) := by rw [wrap_i64 (by omega) (by omega)]; simp
      have hbd : n * (m + 6) ≤ 23 * 300 := Nat.mul_le_mul (by omega) (by omega)
      have w5 : IntKind.i64.wrap ((n : Int) * ((m + 6 : Nat) : Int)) = ((n * (m + 6) : Nat) : Int) := by rw [← Int.natCast_mul]; exact wrap_nat _ (by omega)
      refine bndL (s := false) (cnd_t rfl (bnd (by rw [w4]) (bnd (by rw [w5]) ?_))) (cnd_f rfl (bnd wakes13 rfl))
      show some (Sum.inl (((repB R).length : Int) != _)) = _
      rw [hlen]; simp

end Go.Abs.Sh
