import Derived.Test.YtegjndibgnnpcaaStrM
import Derived.Test.YtegjndibgnnpcaaKeepM
namespace Go.Abs.Sh
set_option linter.unusedVariables false
set_option linter.unusedSimpArgs false

def textS (s : ByteArray) : ((Int)) → Option ((Int) ⊕ ((Unit) ⊕ Bool)) := (fun (s18 : Int) =>
    cond ((decide (s18 < (s.size : Int))))
      (bindS (S := Bool) (A := ((Int) ⊕ ((Unit) ⊕ Bool)))
        ((chrO s s18).bind fun v3 =>
        cond ((decide (v3 < 32)))
          (some (.inl true))
          ((chrO s s18).bind fun v4 =>
          some (.inl ((decide (126 < v4))))))
        (fun (s32 : Bool) =>
          cond (s32)
            (some (.inr (.inr (false))))
            ((some (IntKind.i64.wrap (s18 + 1))).bind fun v10 =>
            some (.inl v10))) some)
      (some (.inr (.inl ()))))
def chkS (p_r : T_Reply) : ((Int)) → Option ((Int) ⊕ ((Unit) ⊕ Int)) := (fun (s22 : Int) =>
              cond ((decide (s22 < (p_r.Lines.length : Int))))
                ((ixO s22 p_r.Lines.length).bind fun v14 =>
                (getO p_r.Lines v14).bind fun v15 =>
                (answer_text v15).bind fun v16 =>
                cond ((!v16))
                  (some (.inr (.inr (5))))
                  ((some (IntKind.i64.wrap (s22 + 1))).bind fun v18 =>
                  some (.inl v18)))
                (some (.inr (.inl ()))))
def bytS (p_r : T_Reply) : (((List Int) × Int)) → Option (((List Int) × Int) ⊕ (((List Int)) ⊕ ((List Int) × Int))) := (fun ((s36, s37) : (List Int) × Int) =>
    cond ((decide (s37 < (p_r.Lines.length : Int))))
      ((ixO s37 p_r.Lines.length).bind fun v4 =>
      (getO p_r.Lines v4).bind fun v5 =>
      bindS (S := Int) (A := (((List Int) × Int) ⊕ (((List Int)) ⊕ ((List Int) × Int))))
        ((some (IntKind.i64.wrap ((p_r.Lines.length : Int) - 1))).bind fun v6 =>
        cond ((s37 == v6))
          (some (.inl 32))
          (some (.inl 45)))
        (fun (s54 : Int) =>
          (quoO .i64 p_r.Code 100).bind fun v13 =>
          (some (IntKind.i64.wrap (48 + v13))).bind fun v14 =>
          (some (IntKind.u8.wrap v14)).bind fun v15 =>
          (quoO .i64 p_r.Code 10).bind fun v16 =>
          (remO v16 10).bind fun v17 =>
          (some (IntKind.i64.wrap (48 + v17))).bind fun v18 =>
          (some (IntKind.u8.wrap v18)).bind fun v19 =>
          (remO p_r.Code 10).bind fun v20 =>
          (some (IntKind.i64.wrap (48 + v20))).bind fun v21 =>
          (some (IntKind.u8.wrap v21)).bind fun v22 =>
          (appO 1 s36 [v15, v19, v22, s54]).bind fun v23 =>
          (appO 1 v23 (sbytes v5)).bind fun v24 =>
          (appO 1 v24 (sbytes (⟨#[13, 10]⟩ : ByteArray))).bind fun v25 =>
          (some (IntKind.i64.wrap (s37 + 1))).bind fun v26 =>
          some (.inl (v25, v26))) some)
      (some (.inr (.inl s36))))
def rrep2S (p_r : T_Reply) (s91 : Int) : ((Int)) → Option ((Int) ⊕ ((Unit) ⊕ ((Int) ⊕ ((Unit) ⊕ Bool)))) := (fun (s147 : Int) =>
                (ixO s91 p_r.Lines.length).bind fun v14 =>
                (getO p_r.Lines v14).bind fun v15 =>
                cond ((decide (s147 < (v15.size : Int))))
                  (bindS (S := Bool) (A := ((Int) ⊕ ((Unit) ⊕ ((Int) ⊕ ((Unit) ⊕ Bool)))))
                    ((ixO s91 p_r.Lines.length).bind fun v17 =>
                    (getO p_r.Lines v17).bind fun v18 =>
                    (chrO v18 s147).bind fun v19 =>
                    cond ((decide (v19 < 32)))
                      (some (.inl true))
                      ((ixO s91 p_r.Lines.length).bind fun v20 =>
                      (getO p_r.Lines v20).bind fun v21 =>
                      (chrO v21 s147).bind fun v22 =>
                      some (.inl ((decide (126 < v22))))))
                    (fun (s161 : Bool) =>
                      cond (s161)
                        (some (.inr (.inr (.inr (.inr (false))))))
                        ((some (IntKind.i64.wrap (s147 + 1))).bind fun v28 =>
                        some (.inl v28))) some)
                  (some (.inr (.inl ()))))
def rrepS (p_r : T_Reply) : ((Int)) → Option ((Int) ⊕ ((Unit) ⊕ Bool)) := (fun (s91 : Int) =>
        cond ((decide (s91 < (p_r.Lines.length : Int))))
          ((ixO s91 p_r.Lines.length).bind fun v11 =>
          (getO p_r.Lines v11).bind fun v12 =>
          cond ((decide (200 < (v12.size : Int))))
            (some (.inr (.inr (false))))
            (bindS (S := (Unit)) (A := ((Int) ⊕ ((Unit) ⊕ Bool)))
              (loopF (S := (Int)) (O := (Unit) ⊕ ((Int) ⊕ ((Unit) ⊕ Bool))) (fun (s147 : Int) =>
                (ixO s91 p_r.Lines.length).bind fun v14 =>
                (getO p_r.Lines v14).bind fun v15 =>
                cond ((decide (s147 < (v15.size : Int))))
                  (bindS (S := Bool) (A := ((Int) ⊕ ((Unit) ⊕ ((Int) ⊕ ((Unit) ⊕ Bool)))))
                    ((ixO s91 p_r.Lines.length).bind fun v17 =>
                    (getO p_r.Lines v17).bind fun v18 =>
                    (chrO v18 s147).bind fun v19 =>
                    cond ((decide (v19 < 32)))
                      (some (.inl true))
                      ((ixO s91 p_r.Lines.length).bind fun v20 =>
                      (getO p_r.Lines v20).bind fun v21 =>
                      (chrO v21 s147).bind fun v22 =>
                      some (.inl ((decide (126 < v22))))))
                    (fun (s161 : Bool) =>
                      cond (s161)
                        (some (.inr (.inr (.inr (.inr (false))))))
                        ((some (IntKind.i64.wrap (s147 + 1))).bind fun v28 =>
                        some (.inl v28))) some)
                  (some (.inr (.inl ()))))
                BIG 0)
              (fun (() : Unit) =>
                (some (IntKind.i64.wrap (s91 + 1))).bind fun v55 =>
                some (.inl v55)) some))
          (some (.inr (.inl ()))))
def rbytS (p_r : T_Reply) : ((ByteArray × Int)) → Option ((ByteArray × Int) ⊕ ((ByteArray) ⊕ (List Int))) := (fun ((s66, s67) : ByteArray × Int) =>
  cond ((decide (s67 < (p_r.Lines.length : Int))))
    (bindS (S := ByteArray) (A := ((ByteArray × Int) ⊕ ((ByteArray) ⊕ (List Int))))
      ((some (IntKind.i64.wrap ((p_r.Lines.length : Int) - 1))).bind fun v2 =>
      cond ((s67 == v2))
        (some (.inl (⟨#[32]⟩ : ByteArray)))
        (some (.inl (⟨#[45]⟩ : ByteArray))))
      (fun (s84 : ByteArray) =>
        (wherryref11_Digits p_r.Code).bind fun v9 =>
        (catO s66 v9).bind fun v10 =>
        (catO v10 s84).bind fun v11 =>
        (ixO s67 p_r.Lines.length).bind fun v12 =>
        (getO p_r.Lines v12).bind fun v13 =>
        (catO v11 v13).bind fun v14 =>
        (catO v14 (⟨#[13, 10]⟩ : ByteArray)).bind fun v15 =>
        (some (IntKind.i64.wrap (s67 + 1))).bind fun v16 =>
        some (.inl (v15, v16))) some)
    (some (.inr (.inl s66))))
def krepS (a b : T_Reply) : ((Int)) → Option ((Int) ⊕ ((Unit) ⊕ Bool)) := (fun (s16 : Int) =>
        cond ((decide (s16 < (a.Lines.length : Int))))
          ((ixO s16 a.Lines.length).bind fun v7 =>
          (getO a.Lines v7).bind fun v8 =>
          (ixO s16 b.Lines.length).bind fun v9 =>
          (getO b.Lines v9).bind fun v10 =>
          cond ((!(v8.toList == v10.toList)))
            (some (.inr (.inr (false))))
            ((some (IntKind.i64.wrap (s16 + 1))).bind fun v12 =>
            some (.inl v12)))
          (some (.inr (.inl ()))))

def okByte (x : Int) : Bool := decide (32 ≤ x) && decide (x ≤ 126)
def okLine (s : ByteArray) : Bool := decide (s.size ≤ 200) && (sbytes s).all okByte
def okCode (c : Int) : Bool := decide (200 ≤ c) && decide (c ≤ 559) && decide (c / 10 % 10 ≤ 5)
def okRep (r : T_Reply) : Bool := okCode r.Code && decide (1 ≤ r.Lines.length) && decide (r.Lines.length ≤ 20) && r.Lines.all okLine

theorem all_idx {A : Type} (l : List A) (p : A → Bool) : l.all p = true ↔ ∀ i, ∀ h : i < l.length, p l[i] = true := by
  rw [List.all_eq_true]
  constructor
  · intro h i hi; exact h _ (List.getElem_mem hi)
  · intro h x hx
    obtain ⟨i, hi, rfl⟩ := List.getElem_of_mem hx
    exact h i hi
theorem if_all {A R : Type} (l : List A) (p : A → Bool) (q : Nat → Bool) (hq : ∀ i, ∀ h : i < l.length, q i = p l[i]) (x y : R) [Decidable (∀ i, i < l.length → q i = true)] : (if ∀ i, i < l.length → q i = true then x else y) = cond (l.all p) x y := by
  cases h : l.all p
  · rw [if_neg]; rfl
    intro hh
    have : l.all p = true := (all_idx l p).2 fun i hi => by rw [← hq i hi]; exact hh i hi
    rw [h] at this; cases this
  · rw [if_pos]; rfl
    intro i hi
    rw [hq i hi]; exact (all_idx l p).1 h i hi

theorem text_eq (s : ByteArray) : answer_text s = some (okLine s) := by
  unfold answer_text okLine
  by_cases h2 : 200 < s.size
  · exact cnd_t (by simp; omega) (by rw [show decide (s.size ≤ 200) = false from decide_eq_false (by omega)]; rfl)
  have hl : (sbytes s).length = s.size := sbytes_len s
  have lp := loop_all (f := textS s) (fun i => okByte ((sbytes s).getD i 0)) s.size false (fuel := BIG) (by unfold BIG; omega) (fun i hi hp => by
    have hc := chr_of hi
    have hi' : i < (sbytes s).length := by omega
    obtain ⟨x, hx⟩ : ∃ x, x = (sbytes s)[i] := ⟨_, rfl⟩
    rw [← hx] at hc
    have hp' : okByte x = true := by simpa [List.getD_eq_getElem?_getD, List.getElem?_eq_getElem hi', ← hx] using hp
    simp only [okByte, Bool.and_eq_true, decide_eq_true_eq] at hp'
    unfold textS
    exact cnd_t (by simp; omega) (bndL (s := false) (bnd hc (cnd_f (by simp; omega) (bnd hc (by rw [show decide (126 < x) = false from decide_eq_false (by omega)])))) (cnd_f rfl (bnd (by rw [wrap_succ (by omega)]) rfl)))) (fun i hi hp => by
    have hc := chr_of hi
    have hi' : i < (sbytes s).length := by omega
    obtain ⟨x, hx⟩ : ∃ x, x = (sbytes s)[i] := ⟨_, rfl⟩
    rw [← hx] at hc
    have hp' : okByte x = false := by simpa [List.getD_eq_getElem?_getD, List.getElem?_eq_getElem hi', ← hx] using hp
    unfold textS
    refine cnd_t (by simp; omega) (bndL (s := true) (bnd hc ?_) (cnd_t rfl rfl))
    by_cases h : x < 32
    · exact cnd_t (by simpa using h) rfl
    · refine cnd_f (by simpa using h) (bnd hc ?_)
      have : decide (126 < x) = true := by
        simp only [okByte, Bool.and_eq_false_iff, decide_eq_false_iff_not] at hp'
        simp; omega
      rw [this]) (by unfold textS; exact cnd_f (by simp) rfl)
  rw [show s.size = (sbytes s).length from hl.symm, if_all (sbytes s) okByte _ (fun i hi => by simp [List.getD_eq_getElem?_getD, List.getElem?_eq_getElem hi])] at lp
  refine cnd_f (by simp; omega) ?_
  rw [show decide (s.size ≤ 200) = true from decide_eq_true (by omega)]
  cases ha : (sbytes s).all okByte
  · rw [ha] at lp; exact bndR lp rfl
  · rw [ha] at lp; exact bndL lp rfl

theorem code_tests (c : Int) : ∃ q, (quoO .i64 c 10).bind (fun v1 => remO v1 10) = some q ∧ (200 ≤ c → c ≤ 559 → q = c / 10 % 10) := by
  refine ⟨(IntKind.i64.wrap (c.tdiv 10)).tmod 10, rfl, fun h1 h2 => ?_⟩
  have h3 : c.tdiv 10 = c / 10 := Int.tdiv_eq_ediv_of_nonneg (by omega)
  rw [h3, wrap_i64 (by omega) (by omega), Int.tmod_eq_emod_of_nonneg (by omega)]

theorem loop_lines {R : Type} (p_r : T_Reply) (hn : p_r.Lines.length ≤ 20) {f : Int → Option (Int ⊕ (Unit ⊕ R))} (r : R)
    (hgo : ∀ i, ∀ h : i < p_r.Lines.length, okLine p_r.Lines[i] = true → f (i : Int) = some (.inl ((i + 1 : Nat) : Int))) (hno : ∀ i, ∀ h : i < p_r.Lines.length, okLine p_r.Lines[i] = false → f (i : Int) = some (.inr (.inr r))) (hend : f (p_r.Lines.length : Int) = some (.inr (.inl ()))) :
    loopF f BIG 0 = some (cond (p_r.Lines.all okLine) (.inl ()) (.inr r)) := by
  have lp := loop_all (f := f) (fun i => okLine (p_r.Lines.getD i ⟨#[]⟩)) p_r.Lines.length r (fuel := BIG) (by unfold BIG; omega)
    (fun i hi hp => hgo i hi (by simpa [List.getD_eq_getElem?_getD, List.getElem?_eq_getElem hi] using hp)) (fun i hi hp => hno i hi (by simpa [List.getD_eq_getElem?_getD, List.getElem?_eq_getElem hi] using hp)) hend
  rw [if_all p_r.Lines okLine _ (fun i hi => by simp [List.getD_eq_getElem?_getD, List.getElem?_eq_getElem hi])] at lp
  exact lp

theorem check13 (r : T_Reply) : answer_Check r = some (cond (okRep r) 0 5) := by
  unfold answer_Check
  obtain ⟨q, hq, hq2⟩ := code_tests r.Code
  have hA : (cond (decide (r.Code < 200)) (some (.inl true)) (cond (decide (559 < r.Code)) (some (.inl true)) ((quoO .i64 r.Code 10).bind fun v1 => (remO v1 10).bind fun v2 => some (.inl (decide (5 < v2))))) : Option (Bool ⊕ Int)) = some (.inl (!okCode r.Code)) := by
    unfold okCode
    by_cases h1 : r.Code < 200
    · exact cnd_t (by simpa using h1) (by rw [show decide (200 ≤ r.Code) = false from decide_eq_false (by omega)]; rfl)
    by_cases h2 : 559 < r.Code
    · exact cnd_f (by simpa using h1) (cnd_t (by simpa using h2) (by rw [show decide (r.Code ≤ 559) = false from decide_eq_false (by omega), Bool.and_false]; rfl))
    · refine cnd_f (by simpa using h1) (cnd_f (by simpa using h2) ?_)
      have e := hq2 (by omega) (by omega)
      have hb : ((quoO .i64 r.Code 10).bind fun v1 => (remO v1 10).bind fun v2 => (some (.inl (decide (5 < v2))) : Option (Bool ⊕ Int))) = ((quoO .i64 r.Code 10).bind fun v1 => remO v1 10).bind fun v2 => some (.inl (decide (5 < v2))) := by
        rw [Option.bind_assoc]
      rw [hb, hq, Option.bind_some, e]
      have e1 : decide (200 ≤ r.Code) = true := by simp; omega
      have e2 : decide (r.Code ≤ 559) = true := by simp; omega
      rw [e1, e2, Bool.true_and, Bool.true_and]
      congr 2
      rw [Bool.eq_iff_iff]; simp
  rw [hA]
  unfold okRep
  cases hc : okCode r.Code
  · exact bndL (s := true) rfl (cnd_t rfl rfl)
  refine bndL (s := false) rfl (cnd_f rfl ?_)
  by_cases h1 : r.Lines.length < 1
  · refine bndL (s := true) (cnd_t (by simp; omega) rfl) (cnd_t rfl ?_)
    rw [show decide (1 ≤ r.Lines.length) = false from decide_eq_false (by omega)]; rfl
  by_cases h2 : 20 < r.Lines.length
  · refine bndL (s := true) (cnd_f (by simp; omega) (by rw [show decide (20 < (r.Lines.length : Int)) = true from decide_eq_true (by omega)])) (cnd_t rfl ?_)
    rw [show decide (r.Lines.length ≤ 20) = false from decide_eq_false (by omega), Bool.and_false]; rfl
  refine bndL (s := false) (cnd_f (by simp; omega) (by rw [show decide (20 < (r.Lines.length : Int)) = false from decide_eq_false (by omega)])) (cnd_f rfl ?_)
  rw [show decide (1 ≤ r.Lines.length) = true from decide_eq_true (by omega), show decide (r.Lines.length ≤ 20) = true from decide_eq_true (by omega)]
  have lp := loop_lines r (by omega) (f := chkS r) 5 (fun i hi hp => by
      unfold chkS
      exact cnd_t (by simp; omega) (bnd (ixO_of hi) (bnd (getO_of hi) (bnd (text_eq _) (cnd_f (by rw [hp]; rfl) (bnd (by rw [wrap_succ (by omega)]) rfl))))))
    (fun i hi hp => by
      unfold chkS
      exact cnd_t (by simp; omega) (bnd (ixO_of hi) (bnd (getO_of hi) (bnd (text_eq _) (cnd_t (by rw [hp]; rfl) rfl)))))
    (by unfold chkS; exact cnd_f (by simp) rfl)
  cases ha : r.Lines.all okLine
  · rw [ha] at lp; exact bndR lp rfl
  · rw [ha] at lp; exact bndL lp rfl

theorem in11 (n lo hi : Int) : wherryref11_in n lo hi = some (decide (lo ≤ n) && decide (n ≤ hi)) := by
  unfold wherryref11_in
  by_cases h : lo ≤ n
  · exact bndL (cnd_t (by simpa using h) rfl) (by rw [show decide (lo ≤ n) = true by simpa using h]; rfl)
  · exact bndL (cnd_f (by simpa using h) rfl) (by rw [show decide (lo ≤ n) = false by simpa using h]; rfl)

theorem refReply_eq (r : T_Reply) : wherryref11_Reply r = some (okRep r) := by
  unfold wherryref11_Reply
  obtain ⟨q, hq, hq2⟩ := code_tests r.Code
  have hA : ((wherryref11_in r.Code 200 559).bind fun v1 => cond (!v1) (some (.inl true)) ((quoO .i64 r.Code 10).bind fun v2 => (remO v2 10).bind fun v3 => cond (decide (5 < v3)) (some (.inl true)) ((wherryref11_in (r.Lines.length : Int) 1 20).bind fun v4 => some (.inl (!v4)))) : Option (Bool ⊕ Bool)) =
      some (.inl (!(okCode r.Code && decide (1 ≤ r.Lines.length) && decide (r.Lines.length ≤ 20)))) := by
    unfold okCode
    refine bnd (in11 _ _ _) ?_
    cases h1 : decide (200 ≤ r.Code) && decide (r.Code ≤ 559)
    · rfl
    · refine cnd_f rfl ?_
      simp only [Bool.and_eq_true, decide_eq_true_eq] at h1
      have e := hq2 h1.1 h1.2
      have hb : ∀ (g : Int → Option (Bool ⊕ Bool)), ((quoO .i64 r.Code 10).bind fun v1 => (remO v1 10).bind g) = ((quoO .i64 r.Code 10).bind fun v1 => remO v1 10).bind g := fun g => by rw [Option.bind_assoc]
      rw [hb, hq, Option.bind_some, e]
      by_cases h5 : 5 < r.Code / 10 % 10
      · exact cnd_t (by simpa using h5) (by rw [show decide (r.Code / 10 % 10 ≤ 5) = false from decide_eq_false (by omega)]; rfl)
      · refine cnd_f (by simpa using h5) (bnd (in11 _ _ _) ?_)
        rw [show decide (r.Code / 10 % 10 ≤ 5) = true from decide_eq_true (by omega)]
        congr 3
        rw [Bool.eq_iff_iff]; simp; omega
  rw [hA]
  unfold okRep
  cases hc : okCode r.Code && decide (1 ≤ r.Lines.length) && decide (r.Lines.length ≤ 20)
  · exact bndL (s := true) rfl (cnd_t rfl rfl)
  have h20 : r.Lines.length ≤ 20 := by simp only [Bool.and_eq_true, decide_eq_true_eq] at hc; omega
  refine bndL (s := false) rfl (cnd_f rfl ?_)
  have inner : ∀ i, ∀ hi : i < r.Lines.length, r.Lines[i].size ≤ 200 → loopF (rrep2S r (i : Int)) BIG 0 = some (cond ((sbytes r.Lines[i]).all okByte) (.inl ()) (.inr (.inr (.inr false)))) := by
    intro i hi h200
    obtain ⟨s, hs⟩ : ∃ s, s = r.Lines[i] := ⟨_, rfl⟩
    have hg := getO_of hi
    rw [← hs] at hg h200 ⊢
    have hix := ixO_of hi
    have hl : (sbytes s).length = s.size := sbytes_len s
    have lp := loop_all (f := rrep2S r (i : Int)) (fun i => okByte ((sbytes s).getD i 0)) s.size (.inr (.inr false)) (fuel := BIG) (by unfold BIG; omega) (fun j hj hp => by
      have hc := chr_of hj
      have hj' : j < (sbytes s).length := by omega
      obtain ⟨x, hx⟩ : ∃ x, x = (sbytes s)[j] := ⟨_, rfl⟩
      rw [← hx] at hc
      have hp' : okByte x = true := by simpa [List.getD_eq_getElem?_getD, List.getElem?_eq_getElem hj', ← hx] using hp
      simp only [okByte, Bool.and_eq_true, decide_eq_true_eq] at hp'
      unfold rrep2S
      exact bnd hix (bnd hg (cnd_t (by simp; omega) (bndL (s := false) (bnd hix (bnd hg (bnd hc (cnd_f (by simp; omega) (bnd hix (bnd hg (bnd hc (by rw [show decide (126 < x) = false from decide_eq_false (by omega)])))))))) (cnd_f rfl (bnd (by rw [wrap_succ (by omega)]) rfl)))))) (fun j hj hp => by
      have hc := chr_of hj
      have hj' : j < (sbytes s).length := by omega
      obtain ⟨x, hx⟩ : ∃ x, x = (sbytes s)[j] := ⟨_, rfl⟩
      rw [← hx] at hc
      have hp' : okByte x = false := by simpa [List.getD_eq_getElem?_getD, List.getElem?_eq_getElem hj', ← hx] using hp
      unfold rrep2S
      refine bnd hix (bnd hg (cnd_t (by simp; omega) (bndL (s := true) (bnd hix (bnd hg (bnd hc ?_))) (cnd_t rfl rfl))))
      by_cases h : x < 32
      · exact cnd_t (by simpa using h) rfl
      · refine cnd_f (by simpa using h) (bnd hix (bnd hg (bnd hc ?_)))
        have : decide (126 < x) = true := by
          simp only [okByte, Bool.and_eq_false_iff, decide_eq_false_iff_not] at hp'
          simp; omega
        rw [this]) (by unfold rrep2S; exact bnd hix (bnd hg (cnd_f (by simp) rfl)))
    rw [show s.size = (sbytes s).length from hl.symm, if_all (sbytes s) okByte _ (fun i hi => by simp [List.getD_eq_getElem?_getD, List.getElem?_eq_getElem hi])] at lp
    exact lp
  have lp := loop_lines r h20 (f := rrepS r) false (fun i hi hp => by
      simp only [okLine, Bool.and_eq_true, decide_eq_true_eq] at hp
      have li := inner i hi hp.1
      rw [hp.2] at li
      unfold rrepS
      exact cnd_t (by simp; omega) (bnd (ixO_of hi) (bnd (getO_of hi) (cnd_f (by simp; omega) (bndL li (bnd (by rw [wrap_succ (by omega)]) rfl))))))
    (fun i hi hp => by
      unfold rrepS
      refine cnd_t (by simp; omega) (bnd (ixO_of hi) (bnd (getO_of hi) ?_))
      by_cases h200 : 200 < r.Lines[i].size
      · exact cnd_t (by simp; omega) rfl
      · have li := inner i hi (by omega)
        have : (sbytes r.Lines[i]).all okByte = false := by
          simp only [okLine] at hp
          rw [show decide (r.Lines[i].size ≤ 200) = true from decide_eq_true (by omega), Bool.true_and] at hp
          exact hp
        rw [this] at li
        exact cnd_f (by simp; omega) (bndR li rfl))
    (by unfold rrepS; exact cnd_f (by simp) rfl)
  cases ha : r.Lines.all okLine
  · rw [ha] at lp; exact bndR lp rfl
  · rw [ha] at lp; exact bndL lp rfl
end Go.Abs.Sh
