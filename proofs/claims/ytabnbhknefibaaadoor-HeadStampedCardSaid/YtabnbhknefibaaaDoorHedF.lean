import Derived.Test.YtabnbhknefibaaaDoorHedE
import Derived.Test.YtabnbhknefibaaaDoorPatQ
namespace Go.Abs.Sh
set_option linter.unusedVariables false
set_option linter.unusedSimpArgs false
def okc (x : Int) : Bool := decide (33 ≤ x) && decide (x ≤ 126)
def firB (l : List Int) : Option Nat := match idx1 58 l with
  | none => none
  | some e => if 0 < e ∧ (l.take e).all okc = true then some e else none
theorem fsx_char (s : ByteArray) (hs : s.size < 4611686018427387904) : fsx s = match firB (sbytes s) with
    | some e => (bstr ((sbytes s).take e), bstr ((sbytes s).drop (e + 1)), true)
    | none => ((⟨#[]⟩ : ByteArray), (⟨#[]⟩ : ByteArray), false) := by
  have hc : strings_Cut s (⟨#[58]⟩ : ByteArray) = _ := cut_eq (n := 58) (by omega) s hs
  have key : head_first s = some (match firB (sbytes s) with
    | some e => (bstr ((sbytes s).take e), bstr ((sbytes s).drop (e + 1)), true)
    | none => ((⟨#[]⟩ : ByteArray), (⟨#[]⟩ : ByteArray), false)) := by
    unfold head_first firB
    refine bnd hc ?_
    cases hi : idx1 ((58 : Nat) : Int) (sbytes s) with
    | none =>
      have hi' : idx1 58 (sbytes s) = none := hi
      simp only [hi']
      exact bndL (s := true) (cnd_t rfl rfl) (cnd_t rfl rfl)
    | some e =>
      have hi' : idx1 58 (sbytes s) = some e := hi
      obtain ⟨h1, _, _⟩ := idx1_some hi
      rw [sbytes_len] at h1
      have hby : byt ((sbytes s).take e) := byt_take (byt_sbytes s) e
      have hsb := sbytes_bstr hby
      have hsz : (bstr ((sbytes s).take e)).size = e := by rw [bstr_size, List.length_take, sbytes_len]; omega
      simp only [hi']
      have hem : ((bstr ((sbytes s).take e)).toList == (⟨#[]⟩ : ByteArray).toList) = decide (e = 0) := by
        rw [isnil15 hby]
        refine decide_eq_decide.2 ⟨fun h => ?_, fun h => by subst h; rfl⟩
        have := congrArg List.length h
        rw [List.length_take, sbytes_len, Nat.min_eq_left (by omega)] at this
        exact this
      by_cases h0 : e = 0
      · rw [if_neg (fun h => by omega)]
        exact bndL (s := true) (cnd_f rfl (by rw [hem, decide_eq_true h0])) (cnd_t rfl rfl)
      have kl := loop_all (R := ByteArray × ByteArray × Bool) (f := fun (s23 : Int) =>
            cond ((decide (s23 < ((bstr ((sbytes s).take e)).size : Int))))
              (bindS (S := Bool) (A := ((Int) ⊕ ((Unit) ⊕ (ByteArray × ByteArray × Bool))))
                ((chrO (bstr ((sbytes s).take e)) s23).bind fun v8 =>
                cond ((decide (v8 < 33)))
                  (some (.inl true))
                  ((chrO (bstr ((sbytes s).take e)) s23).bind fun v9 =>
                  some (.inl ((decide (126 < v9))))))
                (fun (s37 : Bool) =>
                  cond (s37)
                    (some (.inr (.inr (((⟨#[]⟩ : ByteArray), (⟨#[]⟩ : ByteArray), false)))))
                    ((some (IntKind.i64.wrap (s23 + 1))).bind fun v15 =>
                    some (.inl v15))) some)
              (some (.inr (.inl ())))) (fun i => okc (((sbytes s).take e).getD i 0)) e ((⟨#[]⟩ : ByteArray), (⟨#[]⟩ : ByteArray), false) (fuel := BIG) (by unfold BIG; omega)
        (fun i hi hp => by
          have hcc := chrD (s := bstr ((sbytes s).take e)) (i := i) (by omega)
          rw [hsb] at hcc
          simp only [okc, Bool.and_eq_true, decide_eq_true_eq] at hp
          exact cnd_t (decide_eq_true (by omega)) (bndL (s := false) (bnd hcc (cnd_f (decide_eq_false (by omega)) (bnd hcc (by rw [decide_eq_false (by omega)])))) (cnd_f rfl (bnd (some_wrap (by omega) (by omega)) rfl))))
        (fun i hi hp => by
          have hcc := chrD (s := bstr ((sbytes s).take e)) (i := i) (by omega)
          rw [hsb] at hcc
          by_cases h33 : ((sbytes s).take e).getD i 0 < 33
          · exact cnd_t (decide_eq_true (by omega)) (bndL (s := true) (bnd hcc (cnd_t (decide_eq_true h33) rfl)) (cnd_t rfl rfl))
          · have h126 : 126 < ((sbytes s).take e).getD i 0 := by
              simp only [okc, Bool.and_eq_false_iff, decide_eq_false_iff_not] at hp
              omega
            exact cnd_t (decide_eq_true (by omega)) (bndL (s := true) (bnd hcc (cnd_f (decide_eq_false h33) (bnd hcc (by rw [decide_eq_true h126])))) (cnd_t rfl rfl)))
        (cnd_f (decide_eq_false (by omega)) rfl)
      have hall : (∀ i, i < e → okc (((sbytes s).take e).getD i 0) = true) ↔ ((sbytes s).take e).all okc = true := by
        rw [all_iff_get, List.length_take, sbytes_len, Nat.min_eq_left (by omega)]
      by_cases ha : ((sbytes s).take e).all okc = true
      · rw [if_pos (hall.2 ha)] at kl
        rw [if_pos ⟨by omega, ha⟩]
        exact bndL (s := false) (cnd_f rfl (by rw [hem, decide_eq_false h0])) (cnd_f rfl (bndL (s := ()) kl rfl))
      · rw [if_neg (fun h => ha (hall.1 h))] at kl
        rw [if_neg (fun h => ha h.2)]
        exact bndL (s := false) (cnd_f rfl (by rw [hem, decide_eq_false h0])) (cnd_f rfl (bndR kl rfl))
  have := (fsx_eq hs).1
  rw [key] at this
  exact (Option.some.inj this).symm
def conB (l : List Int) : Bool := decide (l.head? = some 32) || decide (l.head? = some 9)
theorem conx_char (s : ByteArray) (hs : s.size < 4611686018427387904) : conx s = conB (sbytes s) := by
  have h1 : strings_HasPrefix s ⟨#[32]⟩ = some (decide ((sbytes s).head? = some 32)) := by
    unfold strings_HasPrefix
    refine bnd (hasPrefix_eq s _) ?_
    rw [show sbytes (⟨#[32]⟩ : ByteArray) = [32] from rfl]
    exact congrArg some (decide_eq_decide.2 (pre1 _ _))
  have h2 : strings_HasPrefix s ⟨#[9]⟩ = some (decide ((sbytes s).head? = some 9)) := by
    unfold strings_HasPrefix
    refine bnd (hasPrefix_eq s _) ?_
    rw [show sbytes (⟨#[9]⟩ : ByteArray) = [9] from rfl]
    exact congrArg some (decide_eq_decide.2 (pre1 _ _))
  have key : head_continues s = some (conB (sbytes s)) := by
    unfold head_continues conB
    by_cases h : (sbytes s).head? = some 32
    · rw [decide_eq_true h] at h1 ⊢
      exact bndL (s := true) (bnd h1 (cnd_t rfl rfl)) rfl
    · rw [decide_eq_false h] at h1 ⊢
      exact bndL (bnd h1 (cnd_f rfl (bnd h2 rfl))) rfl
  have := conx_eq hs
  rw [key] at this
  exact (Option.some.inj this).symm
theorem fsx_name {s : ByteArray} (hs : s.size < 4611686018427387904) : (fsx s).1.size ≤ s.size := by
  rw [fsx_char s hs]
  cases h : firB (sbytes s) with
  | none => exact Nat.zero_le _
  | some e => show (bstr _).size ≤ _; rw [bstr_size, List.length_take, sbytes_len]; omega
def namOK (fs : List T_Field) : Prop := ∀ f ∈ fs, f.Name.size < 1000000
theorem stp_nam {fs fs' : List T_Field} {s : ByteArray} (hs : s.size < 1000000) (h : namOK fs) (e : stp fs s = some fs') : namOK fs' := by
  unfold stp at e
  split at e
  · rename_i hc
    cases e
    intro f hf
    rcases List.mem_or_eq_of_mem_set hf with hf | rfl
    · exact h f hf
    · exact h (lastF fs) (List.mem_of_getElem? (lastF_get hc.2))
  · split at e
    · cases e
      intro f hf
      rcases List.mem_append.1 hf with hf | hf
      · exact h f hf
      · rw [List.mem_singleton] at hf; subst hf
        have := fsx_name (s := s) (by omega)
        show (fsx s).1.size < _
        omega
    · cases e
theorem scn_nam : ∀ (ls : List (List Int)) (fs : List T_Field) (e : Nat), (∀ l ∈ ls, l.length < 1000000) → namOK fs → namOK (scn ls fs e).1
  | [], fs, e, _, h => h
  | l :: ls, fs, e, hl, h => by
    simp only [scn]
    cases hs : stp fs (bstr l) with
    | none => exact h
    | some f => exact scn_nam ls f _ (fun x hx => hl x (by simp [hx])) (stp_nam (by rw [bstr_size]; exact hl l (by simp)) h hs)
def recvS : ByteArray := ⟨#[114, 101, 99, 101, 105, 118, 101, 100]⟩
def hopB (f : T_Field) : Bool := decide (lowS f.Name = recvS)
theorem hop_go {R : Type} {F : ByteArray → Option ByteArray} {fs : List T_Field} {i : Nat} {K : Int → Option R} {K2 : R → Option R} (hF : ∀ s : ByteArray, s.size < 1000000 → F s = some (lowS s)) (hi : i < fs.length) (hn : namOK fs) (hl : fs.length < 1000000) {k : Nat} (hk : k < 1000000) {r : Option R} (hr : K ((k + (hopB fs[i]).toNat : Nat) : Int) = r) :
    bindS (S := Int) (A := R) ((ixO (i : Int) fs.length).bind fun v4 =>
            (getO fs v4).bind fun v5 =>
            (F v5.Name).bind fun v6 =>
            cond ((v6.toList == (⟨#[114, 101, 99, 101, 105, 118, 101, 100]⟩ : ByteArray).toList))
              ((some (IntKind.i64.wrap ((k : Int) + 1))).bind fun v8 =>
              some (.inl v8))
              (some (.inl (k : Int)))) K K2 = r := by
  have hf := hF fs[i].Name (hn _ (List.getElem_mem hi))
  have hb : ((lowS fs[i].Name).toList == (⟨#[114, 101, 99, 101, 105, 118, 101, 100]⟩ : ByteArray).toList) = hopB fs[i] := toList_beq _ _
  cases h : hopB fs[i]
  · rw [h] at hb hr
    exact bndL (bnd (ixO_of hi) (bnd (getO_of hi) (bnd hf (cnd_f hb rfl)))) hr
  · rw [h] at hb hr
    exact bndL (bnd (ixO_of hi) (bnd (getO_of hi) (bnd hf (cnd_t hb (bnd (some_wrap (by omega) (by omega)) rfl))))) (by simpa using hr)
theorem hop_take {fs : List T_Field} {i : Nat} (hi : i < fs.length) : (fs.take (i + 1)).countP hopB = (fs.take i).countP hopB + (hopB fs[i]).toNat := by
  rw [List.take_succ_eq_append_getElem hi, List.countP_append]
  cases h : hopB fs[i] <;> simp [h]
theorem hops_eq {ls : List (List Int)} (hc : ∀ l ∈ ls, cln l) (hb : ∀ l ∈ ls, byt l) (ht : tot ls < 100000) : head_Hops (jn ls) = some ((((scn ls [] 0).1.countP hopB : Nat) : Int), (0 : Int)) := by
  have hn : namOK (scn ls [] 0).1 := scn_nam ls [] 0 (fun l hl => by have := tot_mem hl; omega) (fun f hf => by simp at hf)
  have hl : (scn ls [] 0).1.length < 1000000 := by
    have := scan_len ls [] 0
    have h2 := len_tot15 ls
    simp at this; omega
  generalize hfs : (scn ls [] 0).1 = fs at hn hl
  unfold head_Hops
  refine bnd (scan_eq hc hb ht) (cnd_f rfl (bndL (s := ((fs.countP hopB : Nat) : Int)) ?_ rfl))
  simp only [hfs]
  refine loop_from (fun i => ((((fs.take i).countP hopB : Nat) : Int), (i : Int))) fs.length BIG rfl (by unfold BIG; omega) (fun i hi => ?_) ?_
  · have hk : (fs.take i).countP hopB < 1000000 := by
      have := List.countP_le_length (p := hopB) (l := fs.take i)
      rw [List.length_take] at this; omega
    exact cnd_t (decide_eq_true (by omega)) (hop_go (fun s hs => fold_eq s (by omega)) hi hn hl hk (bnd (some_wrap (by omega) (by omega)) (by rw [← hop_take hi]; rfl)))
  · exact cnd_f (decide_eq_false (by omega)) (by rw [List.take_length])
end Go.Abs.Sh
