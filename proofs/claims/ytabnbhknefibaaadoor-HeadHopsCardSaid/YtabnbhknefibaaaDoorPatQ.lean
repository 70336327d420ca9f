import Derived.Test.YtabnbhknefibaaaDoorPatA
import Derived.KernelRfl
namespace Go.Abs.Sh
set_option linter.unusedVariables false
set_option linter.unusedSimpArgs false
theorem all_iff_get (l : List Int) (p : Int → Bool) : l.all p = true ↔ ∀ i, i < l.length → p (l.getD i 0) = true := by
  rw [List.all_eq_true]
  constructor
  · intro h i hi
    rw [List.getD_eq_getElem?_getD, List.getElem?_eq_getElem hi]
    exact h _ (List.getElem_mem hi)
  · intro h x hx
    obtain ⟨i, hi, rfl⟩ := List.getElem_of_mem hx
    have := h i hi
    rw [List.getD_eq_getElem?_getD, List.getElem?_eq_getElem hi] at this
    exact this
theorem chrD {s : ByteArray} {i : Nat} (h : i < s.size) : chrO s (i : Int) = some ((sbytes s).getD i 0) := by
  rw [chr_of h, List.getD_eq_getElem?_getD, List.getElem?_eq_getElem (by rw [sbytes_len]; exact h)]; rfl
theorem cut_eq {n : Nat} (hn : n < 256) (s : ByteArray) (hs : s.size < 4611686018427387904) : strings_Cut s ⟨#[UInt8.ofNat n]⟩ = some (match idx1 (n : Int) (sbytes s) with
    | some e => (bstr ((sbytes s).take e), bstr ((sbytes s).drop (e + 1)), true)
    | none => (s, (⟨#[]⟩ : ByteArray), false)) := by
  unfold strings_Cut internal_stringslite_Cut
  cases hi : idx1 (n : Int) (sbytes s) with
  | none =>
    refine bnd (x := (s, (⟨#[]⟩ : ByteArray), false)) (bnd (sIndex hn s) ?_) rfl
    rw [hi]
    exact cnd_f rfl rfl
  | some e =>
    obtain ⟨h1, _, _⟩ := idx1_some hi
    rw [sbytes_len] at h1
    have e1 : subO s 0 (e : Int) = some (bstr ((sbytes s).take e)) := by
      have := sub_of (s := s) (a := 0) (b := e) (by omega) (by omega)
      simpa using this
    have e2 : subO s ((e : Int) + 1) (s.size : Int) = some (bstr ((sbytes s).drop (e + 1))) := by
      have := sub_of (s := s) (a := e + 1) (b := s.size) (by omega) (by omega)
      rw [List.take_of_length_le (by simp [sbytes_len])] at this
      simpa using this
    have w2 : some (IntKind.i64.wrap ((e : Int) + ((⟨#[UInt8.ofNat n]⟩ : ByteArray).size : Int))) = some ((e : Int) + 1) := by
      show some (IntKind.i64.wrap ((e : Int) + 1)) = _
      rw [wrap_i (by omega) (by omega)]
    refine bnd (x := (bstr ((sbytes s).take e), bstr ((sbytes s).drop (e + 1)), true)) (bnd (sIndex hn s) ?_) rfl
    rw [hi]
    exact cnd_t (decide_eq_true (by show (0 : Int) ≤ (e : Int); omega)) (bnd e1 (bnd w2 (bnd e2 rfl)))
def e0 : ByteArray := ⟨#[]⟩
def lowB (c : Int) : Int := if 65 ≤ c ∧ c ≤ 90 then c + 32 else c
def lowL (l : List Int) : List Int := l.map lowB
def lowS (s : ByteArray) : ByteArray := bstr (lowL (sbytes s))
theorem set_mid {A : Type} (f : A → A) (l : List A) (i : Nat) (h : i < l.length) : ((l.take i).map f ++ l.drop i).set i (f l[i]) = (l.take (i + 1)).map f ++ l.drop (i + 1) := by
  rw [List.set_append_right _ _ (by simp; omega)]
  have hl : ((l.take i).map f).length = i := by simp; omega
  rw [hl, Nat.sub_self, List.drop_eq_getElem_cons h, List.set_cons_zero, List.take_add_one, List.getElem?_eq_getElem h]
  simp only [Option.toList_some, List.map_append, List.map_cons, List.map_nil, List.append_assoc, List.cons_append, List.nil_append]
theorem get_mid {A : Type} (f : A → A) (l : List A) (i : Nat) (h : i < l.length) : getO ((l.take i).map f ++ l.drop i) i = some l[i] := by
  unfold getO
  rw [List.getElem?_append_right (by simp; omega)]
  have hl : ((l.take i).map f).length = i := by simp; omega
  rw [hl, Nat.sub_self, List.drop_eq_getElem_cons h]
  rfl
theorem fold_eq (s : ByteArray) (hs : s.size < 4611686018427387904) : path_Fold s = some (lowS s) := by
  unfold path_Fold
  refine bnd rfl ?_
  have hlen : (sbytes s).length = s.size := sbytes_len s
  refine bndL (s := lowL (sbytes s)) ?_ rfl
  refine loop_from (fun i => (((sbytes s).take i).map lowB ++ (sbytes s).drop i, (i : Int))) s.size BIG (by simp) (by unfold BIG; omega) (fun i hi => ?_) ?_
  · have hi' : i < (sbytes s).length := by omega
    have hb := byt_sbytes s _ (List.getElem_mem hi')
    have hll : (((sbytes s).take i).map lowB ++ (sbytes s).drop i).length = (sbytes s).length := by simp; omega
    have gt := get_mid lowB (sbytes s) i hi'
    have st := set_mid lowB (sbytes s) i hi'
    have ix : ixO (i : Int) (((sbytes s).take i).map lowB ++ (sbytes s).drop i).length = some i := ixO_of (by omega)
    have w : some (IntKind.i64.wrap ((i : Int) + 1)) = some ((i + 1 : Nat) : Int) := by rw [wrap_succ (by omega)]
    refine cnd_t (decide_eq_true (by omega)) ?_
    by_cases h1 : 65 ≤ (sbytes s)[i] ∧ (sbytes s)[i] ≤ 90
    · have e : lowB (sbytes s)[i] = (sbytes s)[i] + 32 := by unfold lowB; rw [if_pos h1]
      rw [e] at st
      refine bndL (s := ((sbytes s).take (i + 1)).map lowB ++ (sbytes s).drop (i + 1)) (bnd ix (bnd gt (bndL (s := true) (cnd_t (decide_eq_true h1.1) (by rw [decide_eq_true h1.2])) (cnd_t rfl (bnd (by rw [u8_wrap (by omega) (by omega)]) (bnd ix (bnd (by rw [st]) rfl))))))) (bnd w rfl)
    · have e : lowB (sbytes s)[i] = (sbytes s)[i] := by unfold lowB; rw [if_neg h1]
      have st2 : ((sbytes s).take i).map lowB ++ (sbytes s).drop i = ((sbytes s).take (i + 1)).map lowB ++ (sbytes s).drop (i + 1) := by
        rw [List.take_add_one, List.getElem?_eq_getElem hi', List.drop_eq_getElem_cons hi']
        simp only [Option.toList_some, List.map_append, List.map_cons, List.map_nil, List.append_assoc, List.cons_append, List.nil_append, e]
      refine bndL (s := ((sbytes s).take (i + 1)).map lowB ++ (sbytes s).drop (i + 1)) (bnd ix (bnd gt (bndL (s := false) ?_ (cnd_f rfl (by rw [st2]))))) (bnd w rfl)
      by_cases h2 : 65 ≤ (sbytes s)[i]
      · exact cnd_t (decide_eq_true h2) (by rw [decide_eq_false fun h3 => h1 ⟨h2, h3⟩])
      · exact cnd_f (decide_eq_false h2) rfl
  · refine cnd_f (decide_eq_false (by omega)) ?_
    rw [← hlen]
    simp [lowL]
end Go.Abs.Sh
