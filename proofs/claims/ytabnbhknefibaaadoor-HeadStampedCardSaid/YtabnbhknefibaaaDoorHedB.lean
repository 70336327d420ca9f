import Derived.Test.YtabnbhknefibaaaDoorHedA
namespace Go.Abs.Sh
set_option linter.unusedVariables false
set_option linter.unusedSimpArgs false
def scanS (v3 : List (List Int)) : ((List T_Field) × Int × Int) → Option (((List T_Field) × Int × Int) ⊕ (((List T_Field) × Int) ⊕ ((List T_Field) × Int × Int))) := (fun ((s106, s107, s108) : (List T_Field) × Int × Int) =>
        cond ((decide (s108 < (v3.length : Int))))
          ((ixO s108 v3.length).bind fun v5 =>
          (getO v3 v5).bind fun v6 =>
          (some (bstr v6)).bind fun v7 =>
          bindS (S := (List T_Field)) (A := (((List T_Field) × Int × Int) ⊕ (((List T_Field) × Int) ⊕ ((List T_Field) × Int × Int))))
            ((head_first v7).bind fun v8 =>
            bindS (S := (List T_Field)) (A := (((List T_Field)) ⊕ (((List T_Field) × Int × Int) ⊕ (((List T_Field) × Int) ⊕ ((List T_Field) × Int × Int)))))
              (bindS (S := Bool) (A := (((List T_Field)) ⊕ (((List T_Field)) ⊕ (((List T_Field) × Int × Int) ⊕ (((List T_Field) × Int) ⊕ ((List T_Field) × Int × Int))))))
                ((head_continues v7).bind fun v9 =>
                cond (v9)
                  (some (.inl ((decide (0 < (s106.length : Int))))))
                  (some (.inl false)))
                (fun (s192 : Bool) =>
                  cond (s192)
                    ((some (IntKind.i64.wrap ((s106.length : Int) - 1))).bind fun v15 =>
                    (ixO v15 s106.length).bind fun v65 =>
                    (getO s106 v65).bind fun v66 =>
                    (catO v66.Body v7).bind fun v67 =>
                    (ixO v15 s106.length).bind fun v68 =>
                    (getO s106 v68).bind fun v69 =>
                    (some (s106.set v68 (T_Field.mk v69.Name v67))).bind fun v70 =>
                    some (.inl v70))
                    (cond (v8.2.2)
                      ((appO 32 s106 [(T_Field.mk v8.1 v8.2.1)]).bind fun v17 =>
                      some (.inl v17))
                      (cond ((v7.toList == (⟨#[]⟩ : ByteArray).toList))
                        ((some (IntKind.i64.wrap (s107 + 2))).bind fun v19 =>
                        some (.inr (.inr (.inr (.inr ((s106, v19, 0)))))))
                        (some (.inr (.inr (.inr (.inr ((s106, s107, 0)))))))))) some)
              (fun (s188 : (List T_Field)) =>
                some (.inl s188)) some)
            (fun (s177 : (List T_Field)) =>
              (some (IntKind.i64.wrap ((v7.size : Int) + 2))).bind fun v53 =>
              (some (IntKind.i64.wrap (s107 + v53))).bind fun v54 =>
              (some (IntKind.i64.wrap (s108 + 1))).bind fun v55 =>
              some (.inl (s177, v54, v55))) some)
          (some (.inr (.inl (s106, s107)))))
def fsx (s : ByteArray) : ByteArray × ByteArray × Bool := (head_first s).getD (⟨#[]⟩, ⟨#[]⟩, false)
def conx (s : ByteArray) : Bool := (head_continues s).getD false
theorem fsx_eq {s : ByteArray} (h : s.size < 4611686018427387904) : head_first s = some (fsx s) ∧ (fsx s).2.1.size ≤ s.size := by
  obtain ⟨v, hv, h2⟩ := fst_tot s h
  have : fsx s = v := by unfold fsx; rw [hv]; rfl
  rw [this]; exact ⟨hv, h2⟩
theorem conx_eq {s : ByteArray} (h : s.size < 4611686018427387904) : head_continues s = some (conx s) := by
  obtain ⟨v, hv⟩ := con_tot s h
  have : conx s = v := by unfold conx; rw [hv]; rfl
  rw [this]; exact hv
def lastF (fs : List T_Field) : T_Field := fs.getD (fs.length - 1) ⟨⟨#[]⟩, ⟨#[]⟩⟩
theorem lastF_get {fs : List T_Field} (h : 0 < fs.length) : getO fs (fs.length - 1) = some (lastF fs) := by
  unfold lastF getO
  rw [List.getD_eq_getElem?_getD, List.getElem?_eq_getElem (by omega)]; rfl
def stp (fs : List T_Field) (s : ByteArray) : Option (List T_Field) :=
  if conx s = true ∧ 0 < fs.length then some (fs.set (fs.length - 1) (T_Field.mk (lastF fs).Name ((lastF fs).Body ++ s))) else if (fsx s).2.2 = true then some (fs ++ [T_Field.mk (fsx s).1 (fsx s).2.1]) else none
def scn : List (List Int) → List T_Field → Nat → List T_Field × Nat
  | [], fs, e => (fs, e)
  | l :: ls, fs, e => match stp fs (bstr l) with
    | some fs' => scn ls fs' (e + (l.length + 2))
    | none => (fs, if l = [] then e + 2 else e)
def okF (c : Nat) (fs : List T_Field) : Prop := fs.length ≤ c ∧ ∀ f ∈ fs, f.Body.size ≤ c
theorem stp_ok {fs fs' : List T_Field} {s : ByteArray} {c : Nat} (hs : s.size < 4611686018427387904) (h : okF c fs) (e : stp fs s = some fs') : okF (c + (s.size + 2)) fs' := by
  unfold stp at e
  split at e
  · rename_i hc
    cases e
    refine ⟨by rw [List.length_set]; have := h.1; omega, fun f hf => ?_⟩
    rcases List.mem_or_eq_of_mem_set hf with hf | rfl
    · have := h.2 f hf; omega
    · have hm : lastF fs ∈ fs := List.mem_of_getElem? (lastF_get hc.2)
      have := h.2 _ hm
      show ((lastF fs).Body ++ s).size ≤ _
      rw [ByteArray.size_append]; omega
  · split at e
    · cases e
      refine ⟨by rw [List.length_append]; have := h.1; simp; omega, fun f hf => ?_⟩
      rcases List.mem_append.1 hf with hf | hf
      · have := h.2 f hf; omega
      · rw [List.mem_singleton] at hf; subst hf
        have := (fsx_eq hs).2
        show (fsx s).2.1.size ≤ _
        omega
    · cases e
theorem isnil15 {x : List Int} (hb : byt x) : ((bstr x).toList == (⟨#[]⟩ : ByteArray).toList) = decide (x = []) := by
  rw [toList_beq]
  refine decide_eq_decide.2 ⟨fun h => ?_, fun h => by rw [h]; rfl⟩
  have := congrArg sbytes h
  rw [sbytes_bstr hb] at this
  exact this
theorem scan_go {ls : List (List Int)} {i e : Nat} {fs : List T_Field} (hi : i < ls.length) (hb : byt ls[i]) (hl : ls[i].length + e < 1000000) (hn : ls.length < 1000000) (hf : okF e fs) :
    scanS ls (fs, (e : Int), (i : Int)) = match stp fs (bstr ls[i]) with
      | some fs' => some (.inl (fs', ((e + (ls[i].length + 2) : Nat) : Int), ((i + 1 : Nat) : Int)))
      | none => some (.inr (.inr (fs, (((if ls[i] = [] then e + 2 else e) : Nat) : Int), 0))) := by
  have hsz : (bstr ls[i]).size = ls[i].length := bstr_size _
  have hF := fsx_eq (s := bstr ls[i]) (by omega)
  have hC := conx_eq (s := bstr ls[i]) (by omega)
  have w1 : some (IntKind.i64.wrap (((bstr ls[i]).size : Int) + 2)) = some ((ls[i].length + 2 : Nat) : Int) := by rw [hsz, wrap_i (by omega) (by omega)]; simp
  have w2 : some (IntKind.i64.wrap ((e : Int) + ((ls[i].length + 2 : Nat) : Int))) = some ((e + (ls[i].length + 2) : Nat) : Int) := by rw [wrap_i (by omega) (by omega)]; simp
  have hlen := hf.1
  unfold scanS
  refine cnd_t (decide_eq_true (by omega)) (bnd (ixO_of hi) (bnd (getO_of hi) (bnd rfl ?_)))
  unfold stp
  by_cases hc : conx (bstr ls[i]) = true ∧ 0 < fs.length
  · rw [if_pos hc]
    have hg : getO fs (fs.length - 1) = some (lastF fs) := lastF_get hc.2
    have hbody : (lastF fs).Body.size ≤ e := hf.2 _ (List.mem_of_getElem? hg)
    have w0 : some (IntKind.i64.wrap ((fs.length : Int) - 1)) = some ((fs.length - 1 : Nat) : Int) := by rw [wrap_i (by omega) (by omega)]; congr 1; omega
    refine bndL (s := fs.set (fs.length - 1) (T_Field.mk (lastF fs).Name ((lastF fs).Body ++ bstr ls[i]))) (bnd hF.1 (bndL (s := fs.set (fs.length - 1) (T_Field.mk (lastF fs).Name ((lastF fs).Body ++ bstr ls[i]))) (bndL (s := true) (bnd hC (cnd_t hc.1 (by rw [decide_eq_true (by omega)]))) (cnd_t rfl (bnd w0 (bnd (ixO_of (by omega)) (bnd hg (bnd (x := (lastF fs).Body ++ bstr ls[i]) (by unfold catO; rw [if_pos (by omega)]) (bnd (ixO_of (by omega)) (bnd hg (bnd rfl rfl))))))))) rfl)) (bnd w1 (bnd w2 (bnd (some_wrap (by omega) (by omega)) rfl)))
  · rw [if_neg hc]
    have hcc : ∀ X : Option (Bool ⊕ (((List T_Field)) ⊕ (((List T_Field)) ⊕ (((List T_Field) × Int × Int) ⊕ (((List T_Field) × Int) ⊕ ((List T_Field) × Int × Int)))))), X = some (.inl false) → cond (conx (bstr ls[i])) (some (.inl ((decide (0 < (fs.length : Int)))))) X = some (.inl false) := by
      intro X hX
      cases h1 : conx (bstr ls[i])
      · exact hX
      · have : ¬ 0 < fs.length := fun h => hc ⟨h1, h⟩
        show some (Sum.inl (decide (0 < (fs.length : Int)))) = _
        rw [decide_eq_false (by omega)]
    by_cases hok : (fsx (bstr ls[i])).2.2 = true
    · rw [if_pos hok]
      refine bndL (s := fs ++ [T_Field.mk (fsx (bstr ls[i])).1 (fsx (bstr ls[i])).2.1]) (bnd hF.1 (bndL (s := fs ++ [T_Field.mk (fsx (bstr ls[i])).1 (fsx (bstr ls[i])).2.1]) (bndL (s := false) (bnd hC (hcc _ rfl)) (cnd_f rfl (cnd_t hok (bnd (app_of (by simp; omega) (by simp; omega)) rfl)))) rfl)) (bnd w1 (bnd w2 (bnd (some_wrap (by omega) (by omega)) rfl)))
    · rw [if_neg hok]
      have hok2 : (fsx (bstr ls[i])).2.2 = false := by simpa using hok
      by_cases hn : ls[i] = []
      · rw [if_pos hn]
        refine bndR (a := .inr (.inr (fs, ((e + 2 : Nat) : Int), 0))) (bnd hF.1 (bndR (a := .inr (.inr (.inr (fs, ((e + 2 : Nat) : Int), 0)))) (bndL (s := false) (bnd hC (hcc _ rfl)) (cnd_f rfl (cnd_f hok2 (cnd_t (by rw [isnil15 hb]; exact decide_eq_true hn) (bnd (x := ((e + 2 : Nat) : Int)) (by rw [wrap_i (by omega) (by omega)]; simp) rfl))))) rfl)) rfl
      · rw [if_neg hn]
        refine bndR (a := .inr (.inr (fs, (e : Int), 0))) (bnd hF.1 (bndR (a := .inr (.inr (.inr (fs, (e : Int), 0)))) (bndL (s := false) (bnd hC (hcc _ rfl)) (cnd_f rfl (cnd_f hok2 (cnd_f (by rw [isnil15 hb]; exact decide_eq_false hn) rfl)))) rfl)) rfl
theorem scan_loop {ls : List (List Int)} (hb : ∀ l ∈ ls, byt l) (hn : ls.length < 1000000) : ∀ (k i e fuel : Nat) (fs : List T_Field), ls.length - i = k → i ≤ ls.length → k < fuel → e + tot (ls.drop i) < 1000000 → okF e fs →
    bindS (S := ((List T_Field) × Int)) (A := ((List T_Field) × Int × Int)) (loopF (scanS ls) fuel (fs, (e : Int), (i : Int))) (fun ((s150, s151) : (List T_Field) × Int) => some ((s150, s151, (0 : Int)))) some = some ((scn (ls.drop i) fs e).1, (((scn (ls.drop i) fs e).2 : Nat) : Int), (0 : Int)) := by
  intro k
  induction k with
  | zero =>
    intro i e fuel fs hk hi hf ht ho
    obtain ⟨f, rfl⟩ : ∃ f, fuel = f + 1 := ⟨fuel - 1, by omega⟩
    rw [loop_exit (o := .inl (fs, (e : Int))) (by unfold scanS; exact cnd_f (decide_eq_false (by omega)) rfl)]
    rw [List.drop_of_length_le (by omega)]
    rfl
  | succ k ih =>
    intro i e fuel fs hk hi hf ht ho
    obtain ⟨f, rfl⟩ : ∃ f, fuel = f + 1 := ⟨fuel - 1, by omega⟩
    have hi2 : i < ls.length := by omega
    have hd := List.drop_eq_getElem_cons hi2
    rw [hd] at ht ⊢
    simp only [tot] at ht
    have hg := scan_go (fs := fs) (e := e) hi2 (hb _ (List.getElem_mem hi2)) (by omega) hn ho
    simp only [scn]
    cases hs : stp fs (bstr ls[i]) with
    | some fs' =>
      rw [hs] at hg
      rw [loop_next hg]
      have ho2 := stp_ok (by rw [bstr_size]; omega) ho hs
      rw [bstr_size] at ho2
      exact ih (i + 1) (e + (ls[i].length + 2)) f fs' (by omega) (by omega) (by omega) (by omega) ho2
    | none =>
      rw [hs] at hg
      rw [loop_exit hg]
      rfl
theorem scan_eq {ls : List (List Int)} (hc : ∀ l ∈ ls, cln l) (hb : ∀ l ∈ ls, byt l) (ht : tot ls < 100000) : head_Scan (jn ls) = some ((scn ls [] 0).1, (((scn ls [] 0).2 : Nat) : Int), (0 : Int)) := by
  unfold head_Scan
  refine bnd (check_ok hc hb (by omega)) (cnd_f rfl (bnd (lines14 (lns_jn hc) (jn_byt hb) (by rw [jn_len]; omega)) ?_))
  have hl : ls.length ≤ tot ls := by
    clear hc hb ht
    induction ls with
    | nil => simp
    | cons l ls ih => simp only [tot, List.length_cons]; omega
  exact scan_loop hb (by omega) ls.length 0 0 BIG [] (by omega) (by omega) (by unfold BIG; omega) (by simpa using (by omega : 0 + tot ls < 1000000)) ⟨by simp, fun f hf => by simp at hf⟩
end Go.Abs.Sh
