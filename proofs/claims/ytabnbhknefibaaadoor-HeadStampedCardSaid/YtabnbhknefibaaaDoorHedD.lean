import Derived.Test.YtabnbhknefibaaaDoorHedC
namespace Go.Abs.Sh
set_option linter.unusedVariables false
set_option linter.unusedSimpArgs false
def lineF (f : T_Field) : List Int := sbytes f.Name ++ 58 :: sbytes f.Body
def nameOK (s : ByteArray) : Prop := 0 < s.size ∧ ∀ x ∈ sbytes s, 33 ≤ x ∧ x ≤ 126 ∧ x ≠ 58
theorem pre_no {s : ByteArray} {c : Nat} (hc : c < 33) {x : Int} {l : List Int} (hs : sbytes s = x :: l) (hx : 33 ≤ x) (p : ByteArray) (hp : sbytes p = [(c : Int)]) : strings_HasPrefix s p = some false := by
  have hp1 : p.size = 1 := by rw [← sbytes_len, hp]; rfl
  have hs1 : s.size = l.length + 1 := by rw [← sbytes_len, hs]; rfl
  unfold strings_HasPrefix internal_stringslite_HasPrefix
  refine bnd (bndL (s := false) (cnd_t (decide_eq_true (by omega)) (bnd (x := bstr ((sbytes s).take 1)) ?_ ?_)) rfl) rfl
  · have := sub_of (s := s) (a := 0) (b := 1) (by omega) (by omega)
    rw [hp1]
    simpa using this
  · congr 2
    rw [toList_beq]
    refine decide_eq_false fun h => ?_
    have := congrArg sbytes h
    rw [hs, List.take_succ_cons, List.take_zero, hp, sbytes_bstr (by
      intro y hy; rw [List.mem_singleton] at hy; subst hy
      exact byt_sbytes s y (by rw [hs]; simp))] at this
    simp at this
    omega
theorem con_no {s : ByteArray} {x : Int} {l : List Int} (hs : sbytes s = x :: l) (hx : 33 ≤ x) (hz : s.size < 4611686018427387904) : conx s = false := by
  have h1 : head_continues s = some false := by
    unfold head_continues
    exact bndL (s := false) (bnd (pre_no (c := 32) (by omega) hs hx ⟨#[32]⟩ rfl) (cnd_f rfl (bnd (pre_no (c := 9) (by omega) hs hx ⟨#[9]⟩ rfl) rfl))) rfl
  have := conx_eq hz
  rw [h1] at this
  exact (Option.some.inj this).symm
theorem fst_field (f : T_Field) (hn : nameOK f.Name) (hz : f.Name.size + f.Body.size < 1000000) : fsx (bstr (lineF f)) = (f.Name, f.Body, true) := by
  have hby : byt (lineF f) := byt_app (byt_sbytes _) (fun x hx => by
    rcases List.mem_cons.1 hx with rfl | hx
    · omega
    · exact byt_sbytes _ x hx)
  have hsb : sbytes (bstr (lineF f)) = lineF f := sbytes_bstr hby
  have hsz : (bstr (lineF f)).size = f.Name.size + (f.Body.size + 1) := by rw [bstr_size]; unfold lineF; rw [List.length_append, List.length_cons, sbytes_len, sbytes_len]
  have hidx : idx1 ((58 : Nat) : Int) (sbytes (bstr (lineF f))) = some f.Name.size := by
    rw [hsb]; unfold lineF
    have := idx1_app (c := ((58 : Nat) : Int)) (p := sbytes f.Name) (r := sbytes f.Body) (fun h => (hn.2 _ h).2.2 rfl)
    rw [sbytes_len] at this
    exact this
  have hcut : strings_Cut (bstr (lineF f)) ⟨#[58]⟩ = some (f.Name, f.Body, true) := by
    unfold strings_Cut internal_stringslite_Cut
    have hI := sIndex (n := 58) (by omega) (bstr (lineF f))
    rw [hidx] at hI
    have e1 : subO (bstr (lineF f)) 0 (f.Name.size : Int) = some f.Name := by
      have := sub_of (s := bstr (lineF f)) (a := 0) (b := f.Name.size) (by omega) (by omega)
      rw [hsb] at this
      simp only [lineF, List.drop_zero, Nat.sub_zero] at this
      rw [← sbytes_len f.Name, List.take_left, bstr_sbytes, sbytes_len] at this
      simpa [lineF] using this
    have e2 : subO (bstr (lineF f)) ((f.Name.size : Int) + 1) ((bstr (lineF f)).size : Int) = some f.Body := by
      have := sub_of (s := bstr (lineF f)) (a := f.Name.size + 1) (b := (bstr (lineF f)).size) (by omega) (by omega)
      rw [hsb] at this
      have hd : (lineF f).drop (f.Name.size + 1) = sbytes f.Body := by
        unfold lineF
        rw [← sbytes_len f.Name, List.drop_length_add_append]
        rfl
      rw [hd, List.take_of_length_le (by rw [sbytes_len]; omega), bstr_sbytes] at this
      simpa using this
    have w2 : some (IntKind.i64.wrap ((f.Name.size : Int) + ((⟨#[58]⟩ : ByteArray).size : Int))) = some ((f.Name.size : Int) + 1) := by
      show some (IntKind.i64.wrap ((f.Name.size : Int) + 1)) = _
      rw [wrap_i (by omega) (by omega)]
    exact bnd (bnd hI (cnd_t (decide_eq_true (by show (0 : Int) ≤ (f.Name.size : Int); omega)) (bnd e1 (bnd w2 (bnd e2 rfl))))) rfl
  have h1 : head_first (bstr (lineF f)) = some (f.Name, f.Body, true) := by
    unfold head_first
    have he : (f.Name.toList == (⟨#[]⟩ : ByteArray).toList) = false := by
      rw [toList_beq]
      refine decide_eq_false fun h => ?_
      have := hn.1
      rw [h] at this
      exact absurd this (by decide)
    refine bnd hcut (bndL (s := false) (cnd_f rfl (by rw [he])) (cnd_f rfl (bndL (s := ()) (loop_from (fun i => (i : Int)) f.Name.size BIG rfl (by unfold BIG; omega) (fun i hi => ?_) (cnd_f (decide_eq_false (by show ¬ ((f.Name.size : Int) < (f.Name.size : Int)); omega)) rfl)) rfl)))
    have hc := chr_of hi
    have hx := hn.2 _ (List.getElem_mem (l := sbytes f.Name) (by rw [sbytes_len]; exact hi))
    exact cnd_t (decide_eq_true (by show (i : Int) < (f.Name.size : Int); omega)) (bndL (s := false) (bnd hc (cnd_f (decide_eq_false (by omega)) (bnd hc (by rw [decide_eq_false (by omega)])))) (cnd_f rfl (bnd (some_wrap (by omega) (by omega)) rfl)))
  have := (fsx_eq (s := bstr (lineF f)) (by omega)).1
  rw [h1] at this
  exact (Option.some.inj this).symm
theorem stp_field (fs : List T_Field) (f : T_Field) (hn : nameOK f.Name) (hz : f.Name.size + f.Body.size < 1000000) : stp fs (bstr (lineF f)) = some (fs ++ [f]) := by
  have h1 := fst_field f hn hz
  have hby : byt (lineF f) := byt_app (byt_sbytes _) (fun x hx => by
    rcases List.mem_cons.1 hx with rfl | hx
    · omega
    · exact byt_sbytes _ x hx)
  have h2 : conx (bstr (lineF f)) = false := by
    cases hs : sbytes f.Name with
    | nil =>
      have := hn.1
      rw [← sbytes_len, hs] at this
      exact absurd this (by decide)
    | cons x l =>
      refine con_no (x := x) (l := l ++ 58 :: sbytes f.Body) (by rw [sbytes_bstr hby]; unfold lineF; rw [hs]; rfl) (hn.2 x (by rw [hs]; simp)).1 ?_
      rw [bstr_size]; unfold lineF
      rw [List.length_append, List.length_cons, sbytes_len, sbytes_len]; omega
  unfold stp
  rw [h1, h2, if_neg (by simp), if_pos rfl]
end Go.Abs.Sh
