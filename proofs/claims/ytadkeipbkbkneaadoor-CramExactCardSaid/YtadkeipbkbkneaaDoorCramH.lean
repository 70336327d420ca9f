import Derived.Test.YtadkeipbkbkneaaDoorCramG
import Derived.Test.YtadkeipbkbkneaaDoorDigZ
namespace Go.Abs.Sh
set_option linter.unusedVariables false
set_option linter.unusedSimpArgs false
set_option maxRecDepth 100000

/-! The page's digits. -/
theorem hx_sub (v : Nat) (h : v < 16) : subO hxB (v : Int) (IntKind.u8.wrap ((v : Int) + 1)) = some (tx [hx v]) := by
  have : ∀ v : Nat, v < 16 → subO hxB (v : Int) (IntKind.u8.wrap ((v : Int) + 1)) = some (tx [hx v]) := by decide +kernel
  exact this v h
theorem rhex_eq (B : List Nat) (hB : ∀ x ∈ B, x < 256) (hl : B.length ≤ 100000) : wherryref08_Hex (B.map cI) = some (tx (hexN B)) := by
  unfold wherryref08_Hex
  have hlen : (B.map cI).length = B.length := List.length_map _
  refine bndL (s := tx (hexN B)) (loop_from (fun i => (tx (hexN (B.take i)), (i : Int))) B.length _ rfl (by simp only [BIG]; omega) (fun i hi => ?_) ?_) rfl
  · refine cnd_t (decide_eq_true (by rw [hlen]; omega)) ?_
    have hx1 : B.getD i 0 < 256 := by
      rw [List.getD_eq_getElem?_getD, List.getElem?_eq_getElem hi]; exact hB _ (List.getElem_mem _)
    have hacc : (hexN (B.take i)).length ≤ 200000 := by rw [hexN_len, List.length_take]; omega
    have hab : ∀ x ∈ hexN (B.take i), x < 256 := hexN_lt _ (fun x hx => hB x (List.mem_of_mem_take hx))
    have hix : ixO ((i : Nat) : Int) (B.map cI).length = some i := ixO_of (by rw [hlen]; omega)
    have h1 : ∀ v : Nat, v < 16 → ∀ x ∈ [hx v], x < 256 := fun v hv x hx => by
      simp only [List.mem_cons, List.not_mem_nil, or_false] at hx; rw [hx]; exact (hx_dig v hv).1
    refine bnd hix (bnd (getB B hi) (bnd (shr_n .u8 _ 4 (by decide)) (bnd hix (bnd (getB B hi) (bnd (shr_n .u8 _ 4 (by decide)) (bnd rfl ?_))))))
    refine bnd (hx_sub _ (by omega)) (bnd (cat_tx hab (h1 _ (by omega)) (by simp only [List.length_cons, List.length_nil]; omega)) (bnd hix (bnd (getB B hi) ?_)))
    rw [show cI (B.getD i 0) = ((B.getD i 0 : Nat) : Int) from rfl, u8_and15 _ hx1]
    refine bnd rfl (bnd hix (bnd (getB B hi) ?_))
    rw [show cI (B.getD i 0) = ((B.getD i 0 : Nat) : Int) from rfl, u8_and15 _ hx1]
    have hm : B.getD i 0 % 16 < 16 := Nat.mod_lt _ (by decide)
    refine bnd rfl (bnd rfl (bnd (hx_sub _ hm) (bnd (cat_tx (fun x hx => ?_) (h1 _ hm) (by simp only [List.length_append, List.length_cons, List.length_nil]; omega)) (bnd (some_wrap (by omega) (by omega)) ?_))))
    · rcases List.mem_append.1 hx with h | h
      · exact hab x h
      · exact h1 _ (by omega) x h
    · have ht : B.take (i + 1) = B.take i ++ [B.getD i 0] := by
        rw [List.take_add_one, List.getElem?_eq_getElem hi, List.getD_eq_getElem?_getD, List.getElem?_eq_getElem hi]; rfl
      rw [ht, hexN_app, List.append_assoc]
      rfl
  · refine cnd_f (decide_eq_false (by rw [hlen]; omega)) ?_
    rw [List.take_length]
theorem ranswer_eq (U : List Nat) (hU : ∀ x ∈ U, x < 256) (hl : U.length ≤ 5000) (k t : ByteArray) (hk : k.size < 5000) (ht : t.size < 5000) : wherryref08_Answer (tx U) k t = some (tx (encN (ansN U (sbytes k) (sbytes t)))) := by
  unfold wherryref08_Answer
  obtain ⟨h1, h2, h3⟩ := Hd_eq (sbytes k) (sbytes t)
  have h32 : ∀ x ∈ [32], x < 256 := by intro x hx; simp only [List.mem_cons, List.not_mem_nil, or_false] at hx; omega
  refine bnd rfl (bnd rfl (bnd (rkeyed_eq _ _ (by rw [sbytes_len]; omega) (by rw [sbytes_len]; omega)) (bnd (ln_of rfl) (bnd (ln_of rfl) ?_))))
  refine bnd (show catO (tx U) (tx [32]) = some (tx (U ++ [32])) from cat_tx hU h32 (by simp only [List.length_cons, List.length_nil]; omega)) (bnd (ln_of rfl) ?_)
  rw [h1]
  refine bnd (rhex_eq _ h2 (by omega)) ?_
  have hU32 : ∀ x ∈ U ++ [32], x < 256 := by
    intro x hx
    rcases List.mem_append.1 hx with h | h
    · exact hU x h
    · exact h32 x h
  refine bnd (cat_tx hU32 (hexN_lt _ h2) (by simp only [List.length_append, List.length_cons, List.length_nil, hexN_len]; omega)) (bnd rfl ?_)
  have hb := ansN_lt hU (sbytes k) (sbytes t)
  rw [show U ++ [32] ++ hexN (Hd (sbytes k) (sbytes t)) = ansN U (sbytes k) (sbytes t) from rfl, tx_bytes hb]
  exact bnd (renc_eq _ hb (by rw [ansN_len]; omega)) rfl
/-! The page's value of a character: none for what fills. -/
def rv (c : Nat) : Option Nat := sgL.findIdx? (fun x => x == c)
theorem rv_eq (c : Nat) (h : c < 256) : wherryref08_value (cI c) = some (match rv c with | none => -1 | some v => (v : Int)) := by
  have : ∀ c : Nat, c < 256 → wherryref08_value (cI c) = some (match rv c with | none => -1 | some v => (v : Int)) := by decide +kernel
  exact this c h
theorem rv_ix (c : Nat) (h : c < 256) : (match rv c with | none => True | some v => ixv c = v ∧ v < 64 ∧ c ≠ 61) ∧ (rv c = none → ∀ v, v < 64 → sg v ≠ c) := by
  have : ∀ c : Nat, c < 256 → (match rv c with | none => true | some v => ixv c == v && decide (v < 64) && c != 61) = true ∧ (rv c = none → ∀ v, v < 64 → sg v ≠ c) := by decide +kernel
  obtain ⟨h1, h2⟩ := this c h
  refine ⟨?_, h2⟩
  cases hr : rv c with
  | none => trivial
  | some v =>
    rw [hr] at h1
    simp at h1
    exact ⟨h1.1.1, h1.1.2, h1.2⟩
end Go.Abs.Sh
