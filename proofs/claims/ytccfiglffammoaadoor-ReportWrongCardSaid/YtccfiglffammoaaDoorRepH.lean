import Derived.Test.YtccfiglffammoaaDoorRepD
namespace Go.Abs.Sh
set_option linter.unusedVariables false
set_option linter.unusedSimpArgs false
theorem pre15 (s p : ByteArray) (h : s.size < 4611686018427387904) (hp : p.size = 1) : ∃ r, strings_HasPrefix s p = some r := by
  unfold strings_HasPrefix internal_stringslite_HasPrefix
  by_cases hc : 1 ≤ s.size
  · refine ⟨_, bnd (bndL (cnd_t (decide_eq_true (by omega)) (bnd (x := bstr ((sbytes s).take 1)) ?_ rfl)) rfl) rfl⟩
    have := sub_of (s := s) (a := 0) (b := 1) (by omega) (by omega)
    rw [hp]
    simpa using this
  · exact ⟨_, bnd (bndL (cnd_f (decide_eq_false (by omega)) rfl) rfl) rfl⟩
theorem con_tot (s : ByteArray) (h : s.size < 4611686018427387904) : ∃ r, head_continues s = some r := by
  unfold head_continues
  obtain ⟨a, ha⟩ := pre15 s ⟨#[32]⟩ h rfl
  obtain ⟨b, hb⟩ := pre15 s ⟨#[9]⟩ h rfl
  cases a
  · exact ⟨_, bndL (bnd ha (cnd_f rfl (bnd hb rfl))) rfl⟩
  · exact ⟨_, bndL (bnd ha (cnd_t rfl rfl)) rfl⟩
theorem cut15 (s : ByteArray) (hs : s.size < 4611686018427387904) : ∃ v : ByteArray × ByteArray × Bool, strings_Cut s ⟨#[58]⟩ = some v ∧ v.1.size ≤ s.size ∧ v.2.1.size ≤ s.size := by
  unfold strings_Cut internal_stringslite_Cut
  have hI := sIndex (n := 58) (by omega) s
  cases hi : idx1 (58 : Nat) (sbytes s) with
  | none =>
    rw [hi] at hI
    exact ⟨(s, (⟨#[]⟩ : ByteArray), false), bnd (bnd hI (cnd_f rfl rfl)) rfl, Nat.le_refl _, Nat.zero_le _⟩
  | some e =>
    rw [hi] at hI
    obtain ⟨h1, _, _⟩ := idx1_some hi
    rw [sbytes_len] at h1
    have e1 : subO s 0 (e : Int) = some (bstr ((sbytes s).take e)) := by
      have := sub_of (s := s) (a := 0) (b := e) (by omega) (by omega)
      simpa using this
    have e2 : subO s ((e : Int) + 1) (s.size : Int) = some (bstr ((sbytes s).drop (e + 1))) := by
      have := sub_of (s := s) (a := e + 1) (b := s.size) (by omega) (by omega)
      rw [List.take_of_length_le (by simp [sbytes_len])] at this
      simpa using this
    have w2 : some (IntKind.i64.wrap ((e : Int) + ((⟨#[58]⟩ : ByteArray).size : Int))) = some ((e : Int) + 1) := by
      show some (IntKind.i64.wrap ((e : Int) + 1)) = _
      rw [wrap_i (by omega) (by omega)]
    refine ⟨(bstr ((sbytes s).take e), bstr ((sbytes s).drop (e + 1)), true), bnd (bnd hI (cnd_t (decide_eq_true (by show (0 : Int) ≤ (e : Int); omega)) (bnd e1 (bnd w2 (bnd e2 rfl))))) rfl, ?_, ?_⟩
    · rw [bstr_size, List.length_take, sbytes_len]; omega
    · rw [bstr_size, List.length_drop, sbytes_len]; omega
theorem chr_ex {s : ByteArray} {i : Nat} (hi : i < s.size) : ∃ c, chrO s (i : Int) = some c := ⟨_, chr_of hi⟩
theorem fst_tot (s : ByteArray) (hs : s.size < 4611686018427387904) : ∃ v : ByteArray × ByteArray × Bool, head_first s = some v ∧ v.2.1.size ≤ s.size := by
  obtain ⟨v, hv, h1, h2⟩ := cut15 s hs
  unfold head_first
  cases hb : v.2.2
  · exact ⟨_, bnd hv (bndL (s := true) (cnd_t (by rw [hb]; rfl) rfl) (cnd_t rfl rfl)), Nat.zero_le _⟩
  cases he : (v.1.toList == (⟨#[]⟩ : ByteArray).toList)
  case true => exact ⟨_, bnd hv (bndL (s := true) (cnd_f (by rw [hb]; rfl) (by rw [he])) (cnd_t rfl rfl)), Nat.zero_le _⟩
  have key := loop_all (R := ByteArray × ByteArray × Bool) (f := fun (s23 : Int) =>
            cond ((decide (s23 < (v.1.size : Int))))
              (bindS (S := Bool) (A := ((Int) ⊕ ((Unit) ⊕ (ByteArray × ByteArray × Bool))))
                ((chrO v.1 s23).bind fun v8 =>
                cond ((decide (v8 < 33)))
                  (some (.inl true))
                  ((chrO v.1 s23).bind fun v9 =>
                  some (.inl ((decide (126 < v9))))))
                (fun (s37 : Bool) =>
                  cond (s37)
                    (some (.inr (.inr (((⟨#[]⟩ : ByteArray), (⟨#[]⟩ : ByteArray), false)))))
                    ((some (IntKind.i64.wrap (s23 + 1))).bind fun v15 =>
                    some (.inl v15))) some)
              (some (.inr (.inl ())))) (fun i => match chrO v.1 (i : Int) with | some c => !(decide (c < 33) || decide (126 < c)) | none => false) v.1.size ((⟨#[]⟩ : ByteArray), (⟨#[]⟩ : ByteArray), false) (fuel := BIG) (by unfold BIG; omega)
    (fun i hi hp => by
      obtain ⟨c, hc⟩ := chr_ex hi
      rw [hc] at hp
      simp only [Bool.not_eq_true', Bool.or_eq_false_iff] at hp
      exact cnd_t (decide_eq_true (by omega)) (bndL (s := false) (bnd hc (cnd_f hp.1 (bnd hc (by rw [hp.2])))) (cnd_f rfl (bnd (some_wrap (by omega) (by omega)) rfl))))
    (fun i hi hp => by
      obtain ⟨c, hc⟩ := chr_ex hi
      rw [hc] at hp
      by_cases h33 : c < 33
      · exact cnd_t (decide_eq_true (by omega)) (bndL (s := true) (bnd hc (cnd_t (decide_eq_true h33) rfl)) (cnd_t rfl rfl))
      · have h126 : decide (126 < c) = true := by
          simp only [decide_eq_false h33, Bool.false_or, Bool.not_eq_false'] at hp
          exact hp
        exact cnd_t (decide_eq_true (by omega)) (bndL (s := true) (bnd hc (cnd_f (decide_eq_false h33) (bnd hc (by rw [h126])))) (cnd_t rfl rfl)))
    (cnd_f (decide_eq_false (by omega)) rfl)
  split at key
  · exact ⟨_, bnd hv (bndL (s := false) (cnd_f (by rw [hb]; rfl) (by rw [he])) (cnd_f rfl (bndL (s := ()) key rfl))), h2⟩
  · exact ⟨_, bnd hv (bndL (s := false) (cnd_f (by rw [hb]; rfl) (by rw [he])) (cnd_f rfl (bndR key rfl))), Nat.zero_le _⟩
def scanS (v3 : List (List Int)) : ((List T_Field) × Int × Int) → Option (((List T_Field) × Int × Int) ⊕ (((List T_Field) × Int) ⊕ ((List T_Field) × Int × Int))) := (fun ((s106, s107, s108) : (List T_Field) × Int × Int) =>
        cond ((decide (s108 < (v3.length : Int))))
          ((ixO s108 v3.length).bind fun v5 =>
          (getO v3 v5).bind fun v6 =>
          (some (bstr v6)).bind fun v7 =>
          bindS (S := (List T_Field)) (A := (((List T_Field) × Int × Int) ⊕ (((List T_Field) × Int) ⊕ ((List T_Field) × Int × Int))))
            ((head_first v7).bind fun v8 =>
            bindS (S := (List T_Field)) (A := (((List T_Field)) ⊕ (((List T_Field) × Int × Int) ⊕ (((List T_Field) × Int) ⊕ ((List T_Field) × Int × Int)))))
              (bindS (S := Bool) (A := (((List T_Field)) ⊕ (((List T_Field)) ⊕ (((List T_Field) × Int × Int) ⊕ (((List T_Field) × Int) ⊕ ((List T_Field) × Int × Int))))))
                ((head_continues v7).bind fun v9 =>
                cond (v9)
                  (some (.inl ((decide (0 < (s106.length : Int))))))
                  (some (.inl false)))
                (fun (s192 : Bool) =>
                  cond (s192)
                    ((some (IntKind.i64.wrap ((s106.length : Int) - 1))).bind fun v15 =>
                    (ixO v15 s106.length).bind fun v65 =>
                    (getO s106 v65).bind fun v66 =>
                    (catO v66.Body v7).bind fun v67 =>
                    (ixO v15 s106.length).bind fun v68 =>
                    (getO s106 v68).bind fun v69 =>
                    (some (s106.set v68 (T_Field.mk v69.Name v67))).bind fun v70 =>
                    some (.inl v70))
                    (cond (v8.2.2)
                      ((appO 32 s106 [(T_Field.mk v8.1 v8.2.1)]).bind fun v17 =>
                      some (.inl v17))
                      (cond ((v7.toList == (⟨#[]⟩ : ByteArray).toList))
                        ((some (IntKind.i64.wrap (s107 + 2))).bind fun v19 =>
                        some (.inr (.inr (.inr (.inr ((s106, v19, 0)))))))
                        (some (.inr (.inr (.inr (.inr ((s106, s107, 0)))))))))) some)
              (fun (s188 : (List T_Field)) =>
                some (.inl s188)) some)
            (fun (s177 : (List T_Field)) =>
              (some (IntKind.i64.wrap ((v7.size : Int) + 2))).bind fun v53 =>
              (some (IntKind.i64.wrap (s107 + v53))).bind fun v54 =>
              (some (IntKind.i64.wrap (s108 + 1))).bind fun v55 =>
              some (.inl (s177, v54, v55))) some)
          (some (.inr (.inl (s106, s107)))))
def fsx (s : ByteArray) : ByteArray × ByteArray × Bool := (head_first s).getD (⟨#[]⟩, ⟨#[]⟩, false)
def conx (s : ByteArray) : Bool := (head_continues s).getD false
theorem fsx_eq {s : ByteArray} (h : s.size < 4611686018427387904) : head_first s = some (fsx s) ∧ (fsx s).2.1.size ≤ s.size := by
  obtain ⟨v, hv, h2⟩ := fst_tot s h
  have : fsx s = v := by unfold fsx; rw [hv]; rfl
  rw [this]; exact ⟨hv, h2⟩
theorem conx_eq {s : ByteArray} (h : s.size < 4611686018427387904) : head_continues s = some (conx s) := by
  obtain ⟨v, hv⟩ := con_tot s h
  have : conx s = v := by unfold conx; rw [hv]; rfl
  rw [this]; exact hv
def lastF (fs : List T_Field) : T_Field := fs.getD (fs.length - 1) ⟨⟨#[]⟩, ⟨#[]⟩⟩
theorem lastF_get {fs : List T_Field} (h : 0 < fs.length) : getO fs (fs.length - 1) = some (lastF fs) := by
  unfold lastF getO
  rw [List.getD_eq_getElem?_getD, List.getElem?_eq_getElem (by omega)]; rfl
def stp (fs : List T_Field) (s : ByteArray) : Option (List T_Field) :=
  if conx s = true ∧ 0 < fs.length then some (fs.set (fs.length - 1) (T_Field.mk (lastF fs).Name ((lastF fs).Body ++ s))) else if (fsx s).2.2 = true then some (fs ++ [T_Field.mk (fsx s).1 (fsx s).2.1]) else none
def scn : List (List Int) → List T_Field → Nat → List T_Field × Nat
  | [], fs, e => (fs, e)
  | l :: ls, fs, e => match stp fs (bstr l) with
    | some fs' => scn ls fs' (e + (l.length + 2))
    | none => (fs, if l = [] then e + 2 else e)
def okF (c : Nat) (fs : List T_Field) : Prop := fs.length ≤ c ∧ ∀ f ∈ fs, f.Body.size ≤ c
theorem stp_ok {fs fs' : List T_Field} {s : ByteArray} {c : Nat} (hs : s.size < 4611686018427387904) (h : okF c fs) (e : stp fs s = some fs') : okF (c + (s.size + 2)) fs' := by
  unfold stp at e
  split at e
  · rename_i hc
    cases e
    refine ⟨by rw [List.length_set]; have := h.1; omega, fun f hf => ?_⟩
    rcases List.mem_or_eq_of_mem_set hf with hf | rfl
    · have := h.2 f hf; omega
    · have hm : lastF fs ∈ fs := List.mem_of_getElem? (lastF_get hc.2)
      have := h.2 _ hm
      show ((lastF fs).Body ++ s).size ≤ _
      rw [ByteArray.size_append]; omega
  · split at e
    · cases e
      refine ⟨by rw [List.length_append]; have := h.1; simp; omega, fun f hf => ?_⟩
      rcases List.mem_append.1 hf with hf | hf
      · have := h.2 f hf; omega
      · rw [List.mem_singleton] at hf; subst hf
        have := (fsx_eq hs).2
        show (fsx s).2.1.size ≤ _
        omega
    · cases e
theorem isnil15 {x : List Int} (hb : byt x) : ((bstr x).toList == (⟨#[]⟩ : ByteArray).toList) = decide (x = []) := by
  rw [toList_beq]
  refine decide_eq_decide.2 ⟨fun h => ?_, fun h => by rw [h]; rfl⟩
  have := congrArg sbytes h
  rw [sbytes_bstr hb] at this
  exact this
theorem scan_go {ls : List (List Int)} {i e : Nat} {fs : List T_Field} (hi : i < ls.length) (hb : byt ls[i]) (hl : ls[i].length + e < 1000000) (hn : ls.length < 1000000) (hf : okF e fs) :
    scanS ls (fs, (e : Int), (i : Int)) = match stp fs (bstr ls[i]) with
      | some fs' => some (.inl (fs', ((e + (ls[i].length + 2) : Nat) : Int), ((i + 1 : Nat) : Int)))
      | none => some (.inr (.inr (fs, (((if ls[i] = [] then e + 2 else e) : Nat) : Int), 0))) := by
  have hsz : (bstr ls[i]).size = ls[i].length := bstr_size _
  have hF := fsx_eq (s := bstr ls[i]) (by omega)
  have hC := conx_eq (s := bstr ls[i]) (by omega)
  have w1 : some (IntKind.i64.wrap (((bstr ls[i]).size : Int) + 2)) = some ((ls[i].length + 2 : Nat) : Int) := by rw [hsz, wrap_i (by omega) (by omega)]; simp
  have w2 : some (IntKind.i64.wrap ((e : Int) + ((ls[i].length + 2 : Nat) : Int))) = some ((e + (ls[i].length + 2) : Nat) : Int) := by rw [wrap_i (by omega) (by omega)]; simp
  have hlen := hf.1
  unfold scanS
  refine cnd_t (decide_eq_true (by omega)) (bnd (ixO_of hi) (bnd (getO_of hi) (bnd rfl ?_)))
  unfold stp
  by_cases hc : conx (bstr ls[i]) = true ∧ 0 < fs.length
  · rw [if_pos hc]
    have hg : getO fs (fs.length - 1) = some (lastF fs) := lastF_get hc.2
    have hbody : (lastF fs).Body.size ≤ e := hf.2 _ (List.mem_of_getElem? hg)
    have w0 : some (IntKind.i64.wrap ((fs.length : Int) - 1)) = some ((fs.length - 1 : Nat) : Int) := by rw [wrap_i (by omega) (by omega)]; congr 1; omega
    refine bndL (s := fs.set (fs.length - 1) (T_Field.mk (lastF fs).Name ((lastF fs).Body ++ bstr ls[i]))) (bnd hF.1 (bndL (s := fs.set (fs.length - 1) (T_Field.mk (lastF fs).Name ((lastF fs).Body ++ bstr ls[i]))) (bndL (s := true) (bnd hC (cnd_t hc.1 (by rw [decide_eq_true (by omega)]))) (cnd_t rfl (bnd w0 (bnd (ixO_of (by omega)) (bnd hg (bnd (x := (lastF fs).Body ++ bstr ls[i]) (by unfold catO; rw [if_pos (by omega)]) (bnd (ixO_of (by omega)) (bnd hg (bnd rfl rfl))))))))) rfl)) (bnd w1 (bnd w2 (bnd (some_wrap (by omega) (by omega)) rfl)))
  · rw [if_neg hc]
    have hcc : ∀ X : Option (Bool ⊕ (((List T_Field)) ⊕ (((List T_Field)) ⊕ (((List T_Field) × Int × Int) ⊕ (((List T_Field) × Int) ⊕ ((List T_Field) × Int × Int)))))), X = some (.inl false) → cond (conx (bstr ls[i])) (some (.inl ((decide (0 < (fs.length : Int)))))) X = some (.inl false) := by
      intro X hX
      cases h1 : conx (bstr ls[i])
      · exact hX
      · have : ¬ 0 < fs.length := fun h => hc ⟨h1, h⟩
        show some (Sum.inl (decide (0 < (fs.length : Int)))) = _
        rw [decide_eq_false (by omega)]
    by_cases hok : (fsx (bstr ls[i])).2.2 = true
    · rw [if_pos hok]
      refine bndL (s := fs ++ [T_Field.mk (fsx (bstr ls[i])).1 (fsx (bstr ls[i])).2.1]) (bnd hF.1 (bndL (s := fs ++ [T_Field.mk (fsx (bstr ls[i])).1 (fsx (bstr ls[i])).2.1]) (bndL (s := false) (bnd hC (hcc _ rfl)) (cnd_f rfl (cnd_t hok (bnd (app_of (by simp; omega) (by simp; omega)) rfl)))) rfl)) (bnd w1 (bnd w2 (bnd (some_wrap (by omega) (by omega)) rfl)))
    · rw [if_neg hok]
      have hok2 : (fsx (bstr ls[i])).2.2 = false := by simpa using hok
      by_cases hn : ls[i] = []
      · rw [if_pos hn]
        refine bndR (a := .inr (.inr (fs, ((e + 2 : Nat) : Int), 0))) (bnd hF.1 (bndR (a := .inr (.inr (.inr (fs, ((e + 2 : Nat) : Int), 0)))) (bndL (s := false) (bnd hC (hcc _ rfl)) (cnd_f rfl (cnd_f hok2 (cnd_t (by rw [isnil15 hb]; exact decide_eq_true hn) (bnd (x := ((e + 2 : Nat) : Int)) (by rw [wrap_i (by omega) (by omega)]; simp) rfl))))) rfl)) rfl
      · rw [if_neg hn]
        refine bndR (a := .inr (.inr (fs, (e : Int), 0))) (bnd hF.1 (bndR (a := .inr (.inr (.inr (fs, (e : Int), 0)))) (bndL (s := false) (bnd hC (hcc _ rfl)) (cnd_f rfl (cnd_f hok2 (cnd_f (by rw [isnil15 hb]; exact decide_eq_false hn) rfl)))) rfl)) rfl
theorem scan_loop {ls : List (List Int)} (hb : ∀ l ∈ ls, byt l) (hn : ls.length < 1000000) : ∀ (k i e fuel : Nat) (fs : List T_Field), ls.length - i = k → i ≤ ls.length → k < fuel → e + tot (ls.drop i) < 1000000 → okF e fs →
    bindS (S := ((List T_Field) × Int)) (A := ((List T_Field) × Int × Int)) (loopF (scanS ls) fuel (fs, (e : Int), (i : Int))) (fun ((s150, s151) : (List T_Field) × Int) => some ((s150, s151, (0 : Int)))) some = some ((scn (ls.drop i) fs e).1, (((scn (ls.drop i) fs e).2 : Nat) : Int), (0 : Int)) := by
  intro k
  induction k with
  | zero =>
    intro i e fuel fs hk hi hf ht ho
    obtain ⟨f, rfl⟩ : ∃ f, fuel = f + 1 := ⟨fuel - 1, by omega⟩
    rw [loop_exit (o := .inl (fs, (e : Int))) (by unfold scanS; exact cnd_f (decide_eq_false (by omega)) rfl)]
    rw [List.drop_of_length_le (by omega)]
    rfl
  | succ k ih =>
    intro i e fuel fs hk hi hf ht ho
    obtain ⟨f, rfl⟩ : ∃ f, fuel = f + 1 := ⟨fuel - 1, by omega⟩
    have hi2 : i < ls.length := by omega
    have hd := List.drop_eq_getElem_cons hi2
    rw [hd] at ht ⊢
    simp only [tot] at ht
    have hg := scan_go (fs := fs) (e := e) hi2 (hb _ (List.getElem_mem hi2)) (by omega) hn ho
    simp only [scn]
    cases hs : stp fs (bstr ls[i]) with
    | some fs' =>
      rw [hs] at hg
      rw [loop_next hg]
      have ho2 := stp_ok (by rw [bstr_size]; omega) ho hs
      rw [bstr_size] at ho2
      exact ih (i + 1) (e + (ls[i].length + 2)) f fs' (by omega) (by omega) (by omega) (by omega) ho2
    | none =>
      rw [hs] at hg
      rw [loop_exit hg]
      rfl
theorem scan_eq {ls : List (List Int)} (hc : ∀ l ∈ ls, cln l) (hb : ∀ l ∈ ls, byt l) (ht : tot ls < 100000) : head_Scan (jn ls) = some ((scn ls [] 0).1, (((scn ls [] 0).2 : Nat) : Int), (0 : Int)) := by
  unfold head_Scan
  refine bnd (check_ok hc hb (by omega)) (cnd_f rfl (bnd (lines14 (lns_jn hc) (jn_byt hb) (by rw [jn_len]; omega)) ?_))
  have hl : ls.length ≤ tot ls := by
    clear hc hb ht
    induction ls with
    | nil => simp
    | cons l ls ih => simp only [tot, List.length_cons]; omega
  exact scan_loop hb (by omega) ls.length 0 0 BIG [] (by omega) (by omega) (by unfold BIG; omega) (by simpa using (by omega : 0 + tot ls < 1000000)) ⟨by simp, fun f hf => by simp at hf⟩
theorem twin15 (l : List Int) (h : l.length < 4294967296) : wherrykeep_Twin l = some l := by
  unfold wherrykeep_Twin
  exact bnd (x := l) (by simp only [appO]; rw [if_pos (by simp; omega)]; simp) rfl
theorem stp_nil (fs : List T_Field) : stp fs (bstr []) = none := by
  have h1 : conx (bstr []) = false := by kernel_rfl
  have h2 : (fsx (bstr [])).2.2 = false := by kernel_rfl
  unfold stp
  rw [h1, h2]
  simp
theorem len_tot15 : ∀ ls : List (List Int), ls.length ≤ tot ls
  | [] => by simp
  | l :: ls => by have := len_tot15 ls; simp only [tot, List.length_cons]; omega
def lineF (f : T_Field) : List Int := sbytes f.Name ++ 58 :: sbytes f.Body
def nameOK (s : ByteArray) : Prop := 0 < s.size ∧ ∀ x ∈ sbytes s, 33 ≤ x ∧ x ≤ 126 ∧ x ≠ 58
theorem pre_no {s : ByteArray} {c : Nat} (hc : c < 33) {x : Int} {l : List Int} (hs : sbytes s = x :: l) (hx : 33 ≤ x) (p : ByteArray) (hp : sbytes p = [(c : Int)]) : strings_HasPrefix s p = some false := by
  have hp1 : p.size = 1 := by rw [← sbytes_len, hp]; rfl
  have hs1 : s.size = l.length + 1 := by rw [← sbytes_len, hs]; rfl
  unfold strings_HasPrefix internal_stringslite_HasPrefix
  refine bnd (bndL (s := false) (cnd_t (decide_eq_true (by omega)) (bnd (x := bstr ((sbytes s).take 1)) ?_ ?_)) rfl) rfl
  · have := sub_of (s := s) (a := 0) (b := 1) (by omega) (by omega)
    rw [hp1]
    simpa using this
  · congr 2
    rw [toList_beq]
    refine decide_eq_false fun h => ?_
    have := congrArg sbytes h
    rw [hs, List.take_succ_cons, List.take_zero, hp, sbytes_bstr (by
      intro y hy; rw [List.mem_singleton] at hy; subst hy
      exact byt_sbytes s y (by rw [hs]; simp))] at this
    simp at this
    omega
theorem con_no {s : ByteArray} {x : Int} {l : List Int} (hs : sbytes s = x :: l) (hx : 33 ≤ x) (hz : s.size < 4611686018427387904) : conx s = false := by
  have h1 : head_continues s = some false := by
    unfold head_continues
    exact bndL (s := false) (bnd (pre_no (c := 32) (by omega) hs hx ⟨#[32]⟩ rfl) (cnd_f rfl (bnd (pre_no (c := 9) (by omega) hs hx ⟨#[9]⟩ rfl) rfl))) rfl
  have := conx_eq hz
  rw [h1] at this
  exact (Option.some.inj this).symm
theorem fst_field (f : T_Field) (hn : nameOK f.Name) (hz : f.Name.size + f.Body.size < 1000000) : fsx (bstr (lineF f)) = (f.Name, f.Body, true) := by
  have hby : byt (lineF f) := byt_app (byt_sbytes _) (fun x hx => by
    rcases List.mem_cons.1 hx with rfl | hx
    · omega
    · exact byt_sbytes _ x hx)
  have hsb : sbytes (bstr (lineF f)) = lineF f := sbytes_bstr hby
  have hsz : (bstr (lineF f)).size = f.Name.size + (f.Body.size + 1) := by rw [bstr_size]; unfold lineF; rw [List.length_append, List.length_cons, sbytes_len, sbytes_len]
  have hidx : idx1 ((58 : Nat) : Int) (sbytes (bstr (lineF f))) = some f.Name.size := by
    rw [hsb]; unfold lineF
    have := idx1_app (c := ((58 : Nat) : Int)) (p := sbytes f.Name) (r := sbytes f.Body) (fun h => (hn.2 _ h).2.2 rfl)
    rw [sbytes_len] at this
    exact this
  have hcut : strings_Cut (bstr (lineF f)) ⟨#[58]⟩ = some (f.Name, f.Body, true) := by
    unfold strings_Cut internal_stringslite_Cut
    have hI := sIndex (n := 58) (by omega) (bstr (lineF f))
    rw [hidx] at hI
    have e1 : subO (bstr (lineF f)) 0 (f.Name.size : Int) = some f.Name := by
      have := sub_of (s := bstr (lineF f)) (a := 0) (b := f.Name.size) (by omega) (by omega)
      rw [hsb] at this
      simp only [lineF, List.drop_zero, Nat.sub_zero] at this
      rw [← sbytes_len f.Name, List.take_left, bstr_sbytes, sbytes_len] at this
      simpa [lineF] using this
    have e2 : subO (bstr (lineF f)) ((f.Name.size : Int) + 1) ((bstr (lineF f)).size : Int) = some f.Body := by
      have := sub_of (s := bstr (lineF f)) (a := f.Name.size + 1) (b := (bstr (lineF f)).size) (by omega) (by omega)
      rw [hsb] at this
      have hd : (lineF f).drop (f.Name.size + 1) = sbytes f.Body := by
        unfold lineF
        rw [← sbytes_len f.Name, List.drop_length_add_append]
        rfl
      rw [hd, List.take_of_length_le (by rw [sbytes_len]; omega), bstr_sbytes] at this
      simpa using this
    have w2 : some (IntKind.i64.wrap ((f.Name.size : Int) + ((⟨#[58]⟩ : ByteArray).size : Int))) = some ((f.Name.size : Int) + 1) := by
      show some (IntKind.i64.wrap ((f.Name.size : Int) + 1)) = _
      rw [wrap_i (by omega) (by omega)]
    exact bnd (bnd hI (cnd_t (decide_eq_true (by show (0 : Int) ≤ (f.Name.size : Int); omega)) (bnd e1 (bnd w2 (bnd e2 rfl))))) rfl
  have h1 : head_first (bstr (lineF f)) = some (f.Name, f.Body, true) := by
    unfold head_first
    have he : (f.Name.toList == (⟨#[]⟩ : ByteArray).toList) = false := by
      rw [toList_beq]
      refine decide_eq_false fun h => ?_
      have := hn.1
      rw [h] at this
      exact absurd this (by decide)
    refine bnd hcut (bndL (s := false) (cnd_f rfl (by rw [he])) (cnd_f rfl (bndL (s := ()) (loop_from (fun i => (i : Int)) f.Name.size BIG rfl (by unfold BIG; omega) (fun i hi => ?_) (cnd_f (decide_eq_false (by show ¬ ((f.Name.size : Int) < (f.Name.size : Int)); omega)) rfl)) rfl)))
    have hc := chr_of hi
    have hx := hn.2 _ (List.getElem_mem (l := sbytes f.Name) (by rw [sbytes_len]; exact hi))
    exact cnd_t (decide_eq_true (by show (i : Int) < (f.Name.size : Int); omega)) (bndL (s := false) (bnd hc (cnd_f (decide_eq_false (by omega)) (bnd hc (by rw [decide_eq_false (by omega)])))) (cnd_f rfl (bnd (some_wrap (by omega) (by omega)) rfl)))
  have := (fsx_eq (s := bstr (lineF f)) (by omega)).1
  rw [h1] at this
  exact (Option.some.inj this).symm
theorem stp_field (fs : List T_Field) (f : T_Field) (hn : nameOK f.Name) (hz : f.Name.size + f.Body.size < 1000000) : stp fs (bstr (lineF f)) = some (fs ++ [f]) := by
  have h1 := fst_field f hn hz
  have hby : byt (lineF f) := byt_app (byt_sbytes _) (fun x hx => by
    rcases List.mem_cons.1 hx with rfl | hx
    · omega
    · exact byt_sbytes _ x hx)
  have h2 : conx (bstr (lineF f)) = false := by
    cases hs : sbytes f.Name with
    | nil =>
      have := hn.1
      rw [← sbytes_len, hs] at this
      exact absurd this (by decide)
    | cons x l =>
      refine con_no (x := x) (l := l ++ 58 :: sbytes f.Body) (by rw [sbytes_bstr hby]; unfold lineF; rw [hs]; rfl) (hn.2 x (by rw [hs]; simp)).1 ?_
      rw [bstr_size]; unfold lineF
      rw [List.length_append, List.length_cons, sbytes_len, sbytes_len]; omega
  unfold stp
  rw [h1, h2, if_neg (by simp), if_pos rfl]
end Go.Abs.Sh
