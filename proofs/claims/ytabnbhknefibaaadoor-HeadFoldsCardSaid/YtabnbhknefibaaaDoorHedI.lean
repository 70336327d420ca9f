import Derived.Test.YtabnbhknefibaaaDoorHedG
namespace Go.Abs.Sh
set_option linter.unusedVariables false
set_option linter.unusedSimpArgs false
def fdS (more : List ByteArray) : ((List Int) × ByteArray × Int) → Option (((List Int) × ByteArray × Int) ⊕ (((List Int) × ByteArray) ⊕ Bool)) := (fun ((s48, s49, s50) : (List Int) × ByteArray × Int) =>
            cond ((decide (s50 < (more.length : Int))))
              (bindS (S := Bool) (A := (((List Int) × ByteArray × Int) ⊕ (((List Int) × ByteArray) ⊕ Bool)))
                ((ixO s50 more.length).bind fun v8 =>
                (getO more v8).bind fun v9 =>
                cond ((decide (60 < (v9.size : Int))))
                  (some (.inl true))
                  ((ixO s50 more.length).bind fun v10 =>
                  (getO more v10).bind fun v11 =>
                  (wherrylaw15_plain v11).bind fun v12 =>
                  some (.inl (!v12))))
                (fun (s66 : Bool) =>
                  cond (s66)
                    (some (.inr (.inr (true))))
                    ((ixO s50 more.length).bind fun v18 =>
                    (getO more v18).bind fun v19 =>
                    (catO (⟨#[9]⟩ : ByteArray) v19).bind fun v20 =>
                    (catO v20 (⟨#[13, 10]⟩ : ByteArray)).bind fun v21 =>
                    (appO 1 s48 (sbytes v21)).bind fun v33 =>
                    (catO s49 (⟨#[9]⟩ : ByteArray)).bind fun v34 =>
                    (ixO s50 more.length).bind fun v35 =>
                    (getO more v35).bind fun v36 =>
                    (catO v34 v36).bind fun v37 =>
                    (some (IntKind.i64.wrap (s50 + 1))).bind fun v38 =>
                    some (.inl (v33, v37, v38)))) some)
              (some (.inr (.inl (s48, s49)))))
def subF (b : ByteArray) : T_Field := ⟨⟨#[83, 117, 98, 106, 101, 99, 116]⟩, b⟩
def InvS (i : Nat) (A : List Int) (b : ByteArray) : Prop := ∃ L : List (List Int), A = jn L ∧ (∀ l ∈ L, cln l) ∧ (∀ l ∈ L, byt l) ∧ (∀ t, scn (L ++ t) [] 0 = scn t [subF b] (tot L)) ∧ tot L ≤ 12 + 63 * i ∧ b.size ≤ 2 + 61 * i
def tabL (m : ByteArray) : List Int := 9 :: sbytes m
theorem tab_b (m : ByteArray) : bstr (tabL m) = (⟨#[9]⟩ : ByteArray) ++ m := by
  apply sbytes_inj
  have hb : byt (tabL m) := byt_cons (by omega) (byt_sbytes m)
  rw [sbytes_bstr hb]
  simp [sbytes, tabL]
theorem invS_add {i : Nat} {A : List Int} {b m : ByteArray} (h : InvS i A b) (hm : cln (sbytes m)) (hz : m.size ≤ 60) : InvS (i + 1) (A ++ (tabL m ++ [13, 10])) ((b ++ (⟨#[9]⟩ : ByteArray)) ++ m) := by
  obtain ⟨L, g1, g2, g3, g4, g5, g6⟩ := h
  have hlen : (tabL m).length = m.size + 1 := by unfold tabL; rw [List.length_cons, sbytes_len]
  have hby : byt (tabL m) := byt_cons (by omega) (byt_sbytes m)
  have z1 : (⟨#[9]⟩ : ByteArray).size = 1 := rfl
  refine ⟨L ++ [tabL m], by rw [g1, jn_app]; simp [jn], ?_, ?_, fun t => ?_, by rw [tot_app]; simp only [tot, hlen]; omega, by rw [ByteArray.size_append, ByteArray.size_append, z1]; omega⟩
  · intro l hl
    rcases List.mem_append.1 hl with hl | hl
    · exact g2 l hl
    · rw [List.mem_singleton] at hl; subst hl
      intro x hx
      rcases List.mem_cons.1 hx with rfl | hx
      · decide
      · exact hm x hx
  · intro l hl
    rcases List.mem_append.1 hl with hl | hl
    · exact g3 l hl
    · rw [List.mem_singleton] at hl; subst hl; exact hby
  · rw [List.append_assoc, g4]
    have hcon : conx (bstr (tabL m)) = true := by
      rw [conx_char _ (by rw [bstr_size, hlen]; omega), sbytes_bstr hby]
      rfl
    have hs : stp [subF b] (bstr (tabL m)) = some [subF ((b ++ (⟨#[9]⟩ : ByteArray)) ++ m)] := by
      unfold stp
      rw [if_pos ⟨hcon, by simp⟩, tab_b]
      show some [T_Field.mk _ (b ++ ((⟨#[9]⟩ : ByteArray) ++ m))] = _
      rw [← ByteArray.append_assoc]; rfl
    simp only [List.cons_append, List.nil_append, scn, hs, tot_app, tot, Nat.add_zero]
theorem fd_loop (more : List ByteArray) (hm : more.length ≤ 10) : ∀ (k i fuel : Nat) (A : List Int) (b : ByteArray), more.length - i = k → i ≤ more.length → k < fuel → InvS i A b →
    loopF (fdS more) fuel (A, b, (i : Int)) = some (.inr true) ∨ ∃ A' b', loopF (fdS more) fuel (A, b, (i : Int)) = some (.inl (A', b')) ∧ InvS more.length A' b' := by
  intro k
  induction k with
  | zero =>
    intro i fuel A b hk hi hf h
    obtain ⟨f, rfl⟩ : ∃ f, fuel = f + 1 := ⟨fuel - 1, by omega⟩
    have : i = more.length := by omega
    subst this
    exact .inr ⟨A, b, loop_exit (by unfold fdS; exact cnd_f (decide_eq_false (by omega)) rfl), h⟩
  | succ k ih =>
    intro i fuel A b hk hi hf h
    obtain ⟨f, rfl⟩ : ∃ f, fuel = f + 1 := ⟨fuel - 1, by omega⟩
    have hi2 : i < more.length := by omega
    have hx := ixO_of hi2
    have hg := getO_of hi2
    by_cases hz : 60 < more[i].size
    · refine .inl (loop_exit ?_)
      unfold fdS
      exact cnd_t (decide_eq_true (by omega)) (bndL (s := true) (bnd hx (bnd hg (cnd_t (decide_eq_true (by omega)) rfl))) (cnd_t rfl rfl))
    obtain ⟨r, hr, hp⟩ := plain_any more[i] (by omega)
    cases r
    · refine .inl (loop_exit ?_)
      unfold fdS
      exact cnd_t (decide_eq_true (by omega)) (bndL (s := true) (bnd hx (bnd hg (cnd_f (decide_eq_false (by omega)) (bnd hx (bnd hg (bnd hr rfl)))))) (cnd_t rfl rfl))
    have hA : A.length ≤ 12 + 63 * i ∧ b.size ≤ 2 + 61 * i := by
      obtain ⟨L, g1, _, _, _, g5, g6⟩ := h
      exact ⟨by rw [g1, jn_len]; exact g5, g6⟩
    have ct : ∀ s t : ByteArray, s.size + t.size ≤ 10000 → catO s t = some (s ++ t) := fun s t h => by unfold catO; rw [if_pos (by omega)]
    have z1 : (⟨#[9]⟩ : ByteArray).size = 1 := rfl
    have z2 : (⟨#[13, 10]⟩ : ByteArray).size = 2 := rfl
    have hsb : sbytes (((⟨#[9]⟩ : ByteArray) ++ more[i]) ++ (⟨#[13, 10]⟩ : ByteArray)) = tabL more[i] ++ [13, 10] := by
      simp [sbytes, tabL]
    have hlen : (tabL more[i]).length = more[i].size + 1 := by unfold tabL; rw [List.length_cons, sbytes_len]
    have hn := invS_add h (hp rfl) (by omega)
    have hstep : fdS more (A, b, (i : Int)) = some (.inl (A ++ (tabL more[i] ++ [13, 10]), (b ++ (⟨#[9]⟩ : ByteArray)) ++ more[i], ((i + 1 : Nat) : Int))) := by
      unfold fdS
      refine cnd_t (decide_eq_true (by omega)) (bndL (s := false) (bnd hx (bnd hg (cnd_f (decide_eq_false (by omega)) (bnd hx (bnd hg (bnd hr rfl)))))) (cnd_f rfl (bnd hx (bnd hg (bnd (ct _ _ (by rw [z1]; omega)) (bnd (ct _ _ (by rw [ByteArray.size_append, z1, z2]; omega)) (bnd (x := A ++ (tabL more[i] ++ [13, 10])) ?_ (bnd (ct _ _ (by rw [z1]; omega)) (bnd hx (bnd hg (bnd (ct _ _ (by rw [ByteArray.size_append, z1]; omega)) (bnd (some_wrap (by omega) (by omega)) rfl))))))))))))
      rw [hsb]
      exact app_of (by rw [List.length_append, hlen]; simp; omega) (by rw [List.length_append, hlen]; simp; omega)
    rw [loop_next hstep]
    exact ih (i + 1) f _ _ (by omega) (by omega) (by omega) hn
def nfL : List Int := [110, 111, 32, 102, 105, 101, 108, 100]
theorem stp_nf (b : ByteArray) : stp [subF b] (bstr nfL) = none := by
  have h1 : conx (bstr nfL) = false := by kernel_rfl
  have h2 : (fsx (bstr nfL)).2.2 = false := by kernel_rfl
  unfold stp
  rw [h1, h2]
  simp
theorem headFolds_true (more : List ByteArray) (rest : List Int) (hw : wfL (wfI .u8) rest) : wherrylaw15_HeadFolds more rest = some true := by
  have hm := byt_of_wf hw
  unfold wherrylaw15_HeadFolds
  by_cases h1 : 10 < more.length
  · exact bndL (s := true) (cnd_t (decide_eq_true (by omega)) rfl) (cnd_t rfl rfl)
  by_cases h2 : 2000 < rest.length
  · exact bndL (s := true) (cnd_f (decide_eq_false (by omega)) (cnd_t (decide_eq_true (by omega)) rfl)) (cnd_t rfl rfl)
  rcases body_any rest hm (by omega) with hbo | ⟨hbo, lr, hcr, hyr, rfl⟩
  · exact bndL (s := true) (cnd_f (decide_eq_false (by omega)) (cnd_f (decide_eq_false (by omega)) (bnd hbo rfl))) (cnd_t rfl rfl)
  refine bndL (s := false) (cnd_f (decide_eq_false (by omega)) (cnd_f (decide_eq_false (by omega)) (bnd hbo rfl))) (cnd_f rfl ?_)
  have h0 : InvS 0 [83, 117, 98, 106, 101, 99, 116, 58, 32, 97, 13, 10] (⟨#[32, 97]⟩ : ByteArray) := by
    refine ⟨[[83, 117, 98, 106, 101, 99, 116, 58, 32, 97]], by kernel_rfl, of_decide_eq_true (by kernel_rfl), of_decide_eq_true (by kernel_rfl), fun t => ?_, by decide, by decide⟩
    have hs : stp [] (bstr [83, 117, 98, 106, 101, 99, 116, 58, 32, 97]) = some [subF (⟨#[32, 97]⟩ : ByteArray)] := by kernel_rfl
    simp only [List.cons_append, List.nil_append, scn, hs, tot, Nat.zero_add, Nat.add_zero]
  rcases fd_loop more (by omega) more.length 0 BIG _ _ (by omega) (by omega) (by unfold BIG; omega) h0 with hl | ⟨A, b, hl, L, rfl, hcl, hyl, hsc, ht, hbz⟩
  · exact bndR (a := true) hl rfl
  refine bndL hl ?_
  have hnf : sbytes (⟨#[110, 111, 32, 102, 105, 101, 108, 100, 13, 10]⟩ : ByteArray) = jn [nfL] := by kernel_rfl
  have hc : ∀ l ∈ L ++ (nfL :: lr), cln l := fun l hl => by
    rcases List.mem_append.1 hl with hl | hl
    · exact hcl l hl
    · rcases List.mem_cons.1 hl with rfl | hl
      · exact of_decide_eq_true (by kernel_rfl)
      · exact hcr l hl
  have hy : ∀ l ∈ L ++ (nfL :: lr), byt l := fun l hl => by
    rcases List.mem_append.1 hl with hl | hl
    · exact hyl l hl
    · rcases List.mem_cons.1 hl with rfl | hl
      · exact of_decide_eq_true (by kernel_rfl)
      · exact hyr l hl
  have hlr := jn_len lr
  have hnl : nfL.length = 8 := rfl
  have hs := scan_eq hc hy (by rw [tot_app]; simp only [tot, hnl]; omega)
  rw [hsc] at hs
  simp only [scn, stp_nf] at hs
  rw [if_neg (by decide)] at hs
  have hx : jn (L ++ (nfL :: lr)) = (jn L ++ jn [nfL]) ++ jn lr := by rw [jn_app]; simp [jn]
  rw [hx] at hs
  have hnj : (jn [nfL]).length = 10 := rfl
  refine bnd (x := jn L ++ jn [nfL]) (by rw [hnf]; exact app_of (by rw [jn_len, hnj]; omega) (by rw [jn_len, hnj]; omega)) (bnd (app_of (by simp only [List.length_append, jn_len, hnj] at *; omega) (by simp only [List.length_append, jn_len, hnj] at *; omega)) (bnd hs ?_))
  exact bndL (s := true) (cnd_t rfl (cnd_t (by rw [jn_len]; simp) (bnd (fields_refl [subF b] (by simp)) (cnd_t rfl (bnd wakes15 rfl))))) rfl
end Go.Abs.Sh
