import Derived.Test.YtccfiglffammoaaDoorRepG
import Derived.Test.YtccfiglffammoaaDoorRepK
namespace Go.Abs.Sh
set_option linter.unusedVariables false
set_option linter.unusedSimpArgs false
set_option maxRecDepth 100000
def rwS (v19 : List (List Int)) (v23 c : Int) : (((List Int) × (List Int) × Int)) → Option (((List Int) × (List Int) × Int) ⊕ (((List Int) × (List Int)) ⊕ Bool)) := (fun ((s60, s61, s62) : (List Int) × (List Int) × Int) =>
                    cond ((decide (s62 < (v19.length : Int))))
                      ((ixO s62 v19.length).bind fun v31 =>
                      (getO v19 v31).bind fun v32 =>
                      (appO 1 s60 v32).bind fun v33 =>
                      (ixO s62 v19.length).bind fun v34 =>
                      (getO v19 v34).bind fun v35 =>
                      (appO 1 s61 v35).bind fun v36 =>
                      (appO 1 v36 [13, 10]).bind fun v37 =>
                      bindS (S := (List Int) × (List Int)) (A := (((List Int) × (List Int) × Int) ⊕ (((List Int) × (List Int)) ⊕ Bool)))
                        (cond ((s62 == v23))
                          ((appO 1 v33 [c]).bind fun v39 =>
                          (appO 1 v37 [13, 10]).bind fun v40 =>
                          some (.inl (v39, v40)))
                          (some (.inl (v33, v37))))
                        (fun ((s81, s82) : (List Int) × (List Int)) =>
                          (appO 1 s81 [13, 10]).bind fun v47 =>
                          (some (IntKind.i64.wrap (s62 + 1))).bind fun v48 =>
                          some (.inl (v47, s82, v48))) some)
                      (some (.inr (.inl (s60, s61)))))
def bF (q : Nat) (c : Int) : Nat → List (List Int) → List (List Int)
  | _, [] => []
  | i, l :: ls => (if i = q then l ++ [c] else l) :: bF q c (i + 1) ls
def mF (q : Nat) : Nat → List (List Int) → List (List Int)
  | _, [] => []
  | i, l :: ls => if i = q then l :: [] :: mF q (i + 1) ls else l :: mF q (i + 1) ls
theorem bF_tot (q : Nat) (c : Int) : ∀ (i : Nat) (ls : List (List Int)), tot (bF q c i ls) ≤ tot ls + ls.length
  | _, [] => Nat.le_refl _
  | i, l :: ls => by
    have := bF_tot q c (i + 1) ls
    simp only [bF, tot, List.length_cons]
    split
    · rw [List.length_append]; simp; omega
    · omega
theorem mF_tot (q : Nat) : ∀ (i : Nat) (ls : List (List Int)), tot (mF q i ls) ≤ tot ls + 2 * ls.length
  | _, [] => Nat.le_refl _
  | i, l :: ls => by
    have := mF_tot q (i + 1) ls
    simp only [mF]
    split
    · simp only [tot, List.length_cons, List.length_nil]; omega
    · simp only [tot, List.length_cons]; omega
theorem mF_hi (q : Nat) : ∀ (i : Nat) (ls : List (List Int)), q < i → mF q i ls = ls
  | _, [], _ => rfl
  | i, l :: ls, h => by
    simp only [mF]
    rw [if_neg (by omega), mF_hi q (i + 1) ls (by omega)]
theorem mF_len (q : Nat) : ∀ (i : Nat) (ls : List (List Int)), i ≤ q → q < i + ls.length → (mF q i ls).length = ls.length + 1
  | i, [], h, h' => absurd h' (by simp; omega)
  | i, l :: ls, h, h' => by
    simp only [mF]
    split
    · rename_i hi
      rw [mF_hi q (i + 1) ls (by omega)]; simp
    · rw [List.length_cons, mF_len q (i + 1) ls (by omega) (by simp only [List.length_cons] at h'; omega)]; simp
theorem bF_all (q : Nat) (c : Int) {Z : List Int → Prop} (hz : ∀ l, Z l → Z (l ++ [c])) : ∀ (i : Nat) (ls : List (List Int)), (∀ l ∈ ls, Z l) → ∀ l ∈ bF q c i ls, Z l
  | _, [], _, l, h => by cases h
  | i, x :: ls, hc, l, h => by
    simp only [bF, List.mem_cons] at h
    rcases h with rfl | h
    · split
      · exact hz _ (hc x List.mem_cons_self)
      · exact hc x List.mem_cons_self
    · exact bF_all q c hz (i + 1) ls (fun y hy => hc y (List.mem_cons_of_mem _ hy)) l h
theorem mF_all (q : Nat) {Z : List Int → Prop} (hz : Z []) : ∀ (i : Nat) (ls : List (List Int)), (∀ l ∈ ls, Z l) → ∀ l ∈ mF q i ls, Z l
  | _, [], _, l, h => by cases h
  | i, x :: ls, hc, l, h => by
    have ih := mF_all q hz (i + 1) ls (fun y hy => hc y (List.mem_cons_of_mem _ hy))
    simp only [mF] at h
    split at h
    · simp only [List.mem_cons] at h
      rcases h with rfl | rfl | h
      · exact hc l List.mem_cons_self
      · exact hz
      · exact ih l h
    · simp only [List.mem_cons] at h
      rcases h with rfl | h
      · exact hc l List.mem_cons_self
      · exact ih l h
theorem rw_loop (ls : List (List Int)) (q : Nat) (c : Int) (hl : tot ls ≤ 100000) : ∀ (d i fuel : Nat) (A M : List Int), i + d = ls.length → d < fuel → A.length ≤ 4 * 1000000 → M.length ≤ 4 * 1000000 → A.length + 4 * tot (ls.drop i) ≤ 4 * 1000000 → M.length + 4 * tot (ls.drop i) ≤ 4 * 1000000 →
    loopF (rwS ls (q : Int) c) fuel (A, M, (i : Int)) = some (.inl (A ++ jn (bF q c i (ls.drop i)), M ++ jn (mF q i (ls.drop i))))
  | d, i, 0, A, M, _, hf, _, _, _, _ => absurd hf (Nat.not_lt_zero d)
  | 0, i, fuel + 1, A, M, hd, _, _, _, _, _ => by
    obtain rfl : i = ls.length := by omega
    rw [List.drop_length]
    simp only [bF, mF, jn, List.append_nil]
    exact loop_exit (cnd_f (decide_eq_false (by omega)) rfl)
  | d + 1, i, fuel + 1, A, M, hd, hf, ha, hm, ha2, hm2 => by
    have hi : i < ls.length := by omega
    have hg : getO ls i = some ls[i] := by simp [getO, hi]
    have hdr := List.drop_eq_getElem_cons hi
    rw [hdr] at ha2 hm2 ⊢
    simp only [tot] at ha2 hm2
    have hlen := tot_mem (List.getElem_mem hi)
    have h13 : ([13, 10] : List Int).length = 2 := rfl
    have e1 : some (IntKind.i64.wrap ((i : Int) + 1)) = some ((i + 1 : Nat) : Int) := congrArg some (wrap_succ (n := i) (by have := len_tot15 ls; omega))
    by_cases hq : i = q
    · have ih := rw_loop ls q c hl d (i + 1) fuel (((A ++ ls[i]) ++ [c]) ++ [13, 10]) (((M ++ ls[i]) ++ [13, 10]) ++ [13, 10]) (by omega) (by omega) (by simp; omega) (by simp; omega) (by simp; omega) (by simp; omega)
      simp only [bF, mF, if_pos hq]
      have ea : A ++ jn ((ls[i] ++ [c]) :: bF q c (i + 1) (ls.drop (i + 1))) = (((A ++ ls[i]) ++ [c]) ++ [13, 10]) ++ jn (bF q c (i + 1) (ls.drop (i + 1))) := by simp [jn]
      have em : M ++ jn (ls[i] :: [] :: mF q (i + 1) (ls.drop (i + 1))) = (((M ++ ls[i]) ++ [13, 10]) ++ [13, 10]) ++ jn (mF q (i + 1) (ls.drop (i + 1))) := by simp [jn]
      rw [ea, em, ← ih]
      refine loop_next (cnd_t (decide_eq_true (by omega)) (bnd (ixO_of hi) (bnd hg (bnd (app_of (by omega) (by omega)) (bnd (ixO_of hi) (bnd hg (bnd (app_of (by omega) (by omega)) (bnd (app_of (by rw [List.length_append]; omega) (by rw [List.length_append]; omega)) (bndL (s := ((A ++ ls[i]) ++ [c], ((M ++ ls[i]) ++ [13, 10]) ++ [13, 10])) ?_ (bnd (app_of (by simp; omega) (by simp; omega)) (bnd e1 rfl)))))))))))
      exact cnd_t (by rw [hq]; exact beq_self_eq_true _) (bnd (app_of (by simp; omega) (by simp; omega)) (bnd (app_of (by simp; omega) (by simp; omega)) rfl))
    · have ih := rw_loop ls q c hl d (i + 1) fuel ((A ++ ls[i]) ++ [13, 10]) ((M ++ ls[i]) ++ [13, 10]) (by omega) (by omega) (by simp; omega) (by simp; omega) (by simp; omega) (by simp; omega)
      simp only [bF, mF, if_neg hq]
      have ea : A ++ jn (ls[i] :: bF q c (i + 1) (ls.drop (i + 1))) = ((A ++ ls[i]) ++ [13, 10]) ++ jn (bF q c (i + 1) (ls.drop (i + 1))) := by simp [jn]
      have em : M ++ jn (ls[i] :: mF q (i + 1) (ls.drop (i + 1))) = ((M ++ ls[i]) ++ [13, 10]) ++ jn (mF q (i + 1) (ls.drop (i + 1))) := by simp [jn]
      rw [ea, em, ← ih]
      refine loop_next (cnd_t (decide_eq_true (by omega)) (bnd (ixO_of hi) (bnd hg (bnd (app_of (by omega) (by omega)) (bnd (ixO_of hi) (bnd hg (bnd (app_of (by omega) (by omega)) (bnd (app_of (by rw [List.length_append]; omega) (by rw [List.length_append]; omega)) (bndL (s := (A ++ ls[i], (M ++ ls[i]) ++ [13, 10])) ?_ (bnd (app_of (by simp; omega) (by simp; omega)) (bnd e1 rfl)))))))))))
      exact cnd_f (beq_eq_false_iff_ne.2 (by omega)) rfl
theorem jn_inj {a b : List (List Int)} (ha : ∀ l ∈ a, cln l) (hb : ∀ l ∈ b, cln l) (hl : tot a < 100000) (h : jn a = jn b) : a = b := by
  have h1 := rlines_eq (lns_jn ha) (by rw [jn_len]; exact hl)
  have h2 := rlines_eq (lns_jn hb) (by rw [← h, jn_len]; exact hl)
  rw [h] at h1
  rw [h1] at h2
  exact Option.some.inj h2
def dI (q i : Nat) : Nat := if i = q then 1 else 0
theorem bl_len (q i : Nat) (c : Int) (l : List Int) : (if i = q then l ++ [c] else l).length = l.length + dI q i := by
  unfold dI
  split
  · simp
  · simp
theorem txt_more {s s' : T_Path} (h : patB s = true) (hn : s.Null = false) (h' : patB s' = true) (hn' : s'.Null = false) (c : Int) : txtL s' ≠ txtL s ++ [c] := by
  intro e
  obtain ⟨e1, _, _⟩ := pat_txt h hn
  obtain ⟨e2, l2, d2⟩ := pat_txt h' hn'
  have hx : txtL s' = (60 :: (sbytes s'.Local ++ 64 :: sbytes s'.Domain)) ++ [62] := by rw [e2]; simp
  rw [hx] at e
  have h3 := (List.append_inj' e rfl).1
  have hm : (62 : Int) ∈ txtL s := by rw [e1]; simp
  rw [← h3] at hm
  simp only [List.mem_cons, List.mem_append] at hm
  rcases hm with hm | hm | hm | hm
  · exact absurd hm (by decide)
  · exact loc_no (c := 62) (by decide) l2 hm
  · exact absurd hm (by decide)
  · exact dom_no (c := 62) (by decide) d2 hm
theorem bF_no {S P Q S' P' Q' : List Int} {q : Nat} (hq : q < 18) {c : Int} (h : repL S' P' Q' = bF q c 0 (repL S P Q)) : P' = P ++ [c] := by
  simp only [repL, bF, List.cons.injEq] at h
  obtain ⟨h0, h1, h2, h3, h4, h5, h6, h7, h8, h9, h10, h11, h12, h13, h14, h15, h16, h17, _⟩ := h
  have g0 := congrArg List.length h0; have g2 := congrArg List.length h2; have g3 := congrArg List.length h3; have g4 := congrArg List.length h4; have g5 := congrArg List.length h5; have g6 := congrArg List.length h6; have g7 := congrArg List.length h7; have g8 := congrArg List.length h8; have g9 := congrArg List.length h9; have g10 := congrArg List.length h10; have g11 := congrArg List.length h11; have g12 := congrArg List.length h12; have g13 := congrArg List.length h13; have g14 := congrArg List.length h14; have g15 := congrArg List.length h15; have g16 := congrArg List.length h16; have g17 := congrArg List.length h17
  simp only [Nat.zero_add, Nat.reduceAdd] at g0 g2 g3 g4 g5 g6 g7 g8 g9 g10 g11 g12 g13 g14 g15 g16 g17 h1
  rw [bl_len] at g0 g2 g3 g4 g5 g6 g7 g8 g9 g10 g11 g12 g13 g14 g15 g16 g17
  simp only [List.length_append, List.length_cons, List.length_nil] at g0 g2 g3 g4 g5 g6 g7 g8 g9 g10 g11 g12 g13 g14 g15 g16 g17
  have hd : ∀ i, (dI q i = 1 ∧ i = q) ∨ (dI q i = 0 ∧ i ≠ q) := fun i => by
    unfold dI
    by_cases h : i = q
    · exact .inl ⟨if_pos h, h⟩
    · exact .inr ⟨if_neg h, h⟩
  have d0 := hd 0; have d2 := hd 2; have d3 := hd 3; have d4 := hd 4; have d5 := hd 5; have d6 := hd 6; have d7 := hd 7; have d8 := hd 8; have d9 := hd 9; have d10 := hd 10; have d11 := hd 11; have d12 := hd 12; have d13 := hd 13; have d14 := hd 14; have d15 := hd 15; have d16 := hd 16; have d17 := hd 17
  have hq1 : q = 1 := by omega
  rw [if_pos hq1.symm, List.append_assoc] at h1
  exact List.append_cancel_left h1
def sxB : ByteArray := ⟨#[115, 46, 120]⟩
theorem reportWrong_true (sender rcpt : T_Path) (line c : Int) (h1 : T_Path.wz sender) (h2 : T_Path.wz rcpt) (h3 : wfI .u8 c) : wherrylaw16_ReportWrong sender rcpt line c = some true := by
  have s1 := pz_of h1
  have s2 := pz_of h2
  have hm : 0 ≤ c ∧ c < 256 := by
    have h := h3
    simp only [wfI, Lit.wf, IntKind.min, IntKind.max, IntKind.signed, IntKind.bits] at h
    have h2 : 0 ≤ c ∧ c ≤ 255 := by simpa using h
    omega
  unfold wherrylaw16_ReportWrong
  have sum : ∀ {R : Type} (f : Int → Option R), ((some (IntKind.i64.wrap ((sender.Local.size : Int) + (sender.Domain.size : Int)))).bind fun v1 =>
    (some (IntKind.i64.wrap (v1 + (rcpt.Local.size : Int)))).bind fun v2 =>
    (some (IntKind.i64.wrap (v2 + (rcpt.Domain.size : Int)))).bind f) = f ((sender.Local.size + sender.Domain.size + rcpt.Local.size + rcpt.Domain.size : Nat) : Int) := fun f =>
    bnd (wadd16 (by omega)) (bnd (wadd16 (by omega)) (bnd (wadd16 (by omega)) rfl))
  by_cases hbig : 1000 < sender.Local.size + sender.Domain.size + rcpt.Local.size + rcpt.Domain.size
  · exact bndL (s := true) ((sum _).trans (cnd_t (decide_eq_true (by omega)) rfl)) (cnd_t rfl rfl)
  have hr := right_eq sxB sender rcpt
  cases hg : rg sxB sender rcpt
  · rw [hg] at hr
    exact bndL (s := true) ((sum _).trans (cnd_f (decide_eq_false (by omega)) (bnd hr rfl))) (cnd_t rfl rfl)
  rw [hg] at hr
  refine bndL (s := false) ((sum _).trans (cnd_f (decide_eq_false (by omega)) (bnd hr rfl))) (cnd_f rfl ?_)
  have hs : Sm sender := ⟨by omega, by omega⟩
  have hp : Sm rcpt := ⟨by omega, by omega⟩
  have hnl : Sm (T_Path.mk true (⟨#[]⟩ : ByteArray) (⟨#[]⟩ : ByteArray)) := ⟨by simp [ByteArray.size], by simp [ByteArray.size]⟩
  have c1 := build_eq sxB (T_Path.mk true (⟨#[]⟩ : ByteArray) (⟨#[]⟩ : ByteArray)) rcpt (by decide) hnl hp
  have c2 := build_eq sxB sender (T_Path.mk true (⟨#[]⟩ : ByteArray) (⟨#[]⟩ : ByteArray)) (by decide) hs hnl
  have c3 := build_eq (⟨#[115, 32, 120]⟩ : ByteArray) sender rcpt (by decide) hs hp
  rw [if_neg (by simp [rg])] at c1
  rw [if_neg (by simp [rg])] at c2
  rw [if_neg (by
    have : domB (sbytes (⟨#[115, 32, 120]⟩ : ByteArray)) = false := by kernel_rfl
    simp [rg, this])] at c3
  refine bnd c1 (bnd c2 (bnd c3 (bndL (s := false) rfl (cnd_f rfl ?_))))
  obtain ⟨hc, hb⟩ := rep_all hg
  have hsh := rep_short hg
  obtain ⟨g1, g2, g3, g4, g5⟩ := rg_of hg
  have htot : tot (repL (sbytes sxB) (txtL sender) (txtL rcpt)) ≤ 2200 := by
    have e : (repOf (sxB, sender, rcpt)).length = tot (repL (sbytes sxB) (txtL sender) (txtL rcpt)) := jn_len _
    omega
  have hln : wherryref11_Lines (repOf (sxB, sender, rcpt)) = some (repL (sbytes sxB) (txtL sender) (txtL rcpt)) := rlines_eq (lns_jn hc) (by omega)
  obtain ⟨q, hq, hqr⟩ := spo_rem line 18 (by omega) (by omega)
  refine bnd (rbuild_eq sxB sender rcpt (by decide) hs hp) (bnd hln (bnd rfl (bnd rfl (bnd hqr (bnd (congrArg some (wrap_nat q (by omega))) ?_)))))
  by_cases hc13 : c = 13
  · exact bndL (s := true) (cnd_t (beq_iff_eq.2 hc13) rfl) (cnd_t rfl (bnd wakes16 rfl))
  by_cases hc10 : c = 10
  · exact bndL (s := true) (cnd_f (beq_eq_false_iff_ne.2 hc13) (inl_of (beq_iff_eq.2 hc10))) (cnd_t rfl (bnd wakes16 rfl))
  refine bndL (s := false) (cnd_f (beq_eq_false_iff_ne.2 hc13) (inl_of (beq_eq_false_iff_ne.2 hc10))) (cnd_f rfl ?_)
  have hl := rw_loop (repL (sbytes sxB) (txtL sender) (txtL rcpt)) q c (by omega) 18 0 BIG [] [] rfl (by simp only [BIG]; omega) (by simp) (by simp) (by simp; omega) (by simp; omega)
  rw [List.drop_zero, List.nil_append, List.nil_append] at hl
  have hbc := bF_all q c (Z := cln) (fun l h => cln_app h (cln1 hc13 hc10)) 0 _ hc
  have hbb := bF_all q c (Z := byt) (fun l h => byt_app h (byt1 hm)) 0 _ hb
  have hmc := mF_all q (Z := cln) cln_nil 0 _ hc
  have hmb := mF_all q (Z := byt) byt_nil 0 _ hb
  have t1 := bF_tot q c 0 (repL (sbytes sxB) (txtL sender) (txtL rcpt))
  have t2 := mF_tot q 0 (repL (sbytes sxB) (txtL sender) (txtL rcpt))
  rw [rep_len] at t1 t2
  have no1 : report_Read (jn (bF q c 0 (repL (sbytes sxB) (txtL sender) (txtL rcpt)))) = some (e0, noP, noP, 5) := read_no (jn_byt hbb) (by rw [jn_len]; omega) (fun a s' p' hg' he => by
    have hsh' := rep_short hg'
    have he2 : jn (repL (sbytes a) (txtL s') (txtL p')) = jn (bF q c 0 (repL (sbytes sxB) (txtL sender) (txtL rcpt))) := he
    have hlen : (repOf (a, s', p')).length = tot (repL (sbytes a) (txtL s') (txtL p')) := jn_len _
    have := jn_inj (rep_all hg').1 hbc (by omega) he2
    obtain ⟨k1, k2, k3, k4, k5⟩ := rg_of hg'
    exact txt_more g2 g3 k2 k3 c (bF_no hq this))
  have no2 : report_Read (jn (mF q 0 (repL (sbytes sxB) (txtL sender) (txtL rcpt)))) = some (e0, noP, noP, 5) := read_no (jn_byt hmb) (by rw [jn_len]; omega) (fun a s' p' hg' he => by
    have hsh' := rep_short hg'
    have he2 : jn (repL (sbytes a) (txtL s') (txtL p')) = jn (mF q 0 (repL (sbytes sxB) (txtL sender) (txtL rcpt))) := he
    have hlen : (repOf (a, s', p')).length = tot (repL (sbytes a) (txtL s') (txtL p')) := jn_len _
    have := congrArg List.length (jn_inj (rep_all hg').1 hmc (by omega) he2)
    rw [rep_len, mF_len q 0 _ (by omega) (by rw [rep_len]; omega), rep_len] at this
    omega)
  refine bndL hl (bnd no1 (bnd no2 (bndL (s := true) ?_ rfl)))
  exact cnd_t rfl (cnd_t rfl (cnd_t (str_self e0) (bnd (keepP_self noP) (cnd_t rfl (bnd (keepP_self noP) (cnd_t rfl (bnd wakes16 rfl)))))))
end Go.Abs.Sh
