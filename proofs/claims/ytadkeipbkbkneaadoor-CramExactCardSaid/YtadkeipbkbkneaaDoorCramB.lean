import Derived.Test.YtadkeipbkbkneaaDoorCramA
namespace Go.Abs.Sh
set_option linter.unusedVariables false
set_option linter.unusedSimpArgs false
set_option maxRecDepth 100000

theorem getB (B : List Nat) {i : Nat} (h : i < B.length) : getO (B.map cI) i = some (cI (B.getD i 0)) := by
  simp [getO, List.getD, h]
theorem app1 (l m : List Int) (h : l.length + m.length ≤ 1000000) : appO 1 l m = some (l ++ m) := app_of (by omega) (by omega)
theorem rep0 : strings_Repeat (⟨#[61]⟩ : ByteArray) ((0 : Nat) : Int) = some (bstr (List.replicate 0 61)) := by kernel_rfl
theorem rep1 : strings_Repeat (⟨#[61]⟩ : ByteArray) ((1 : Nat) : Int) = some (bstr (List.replicate 1 61)) := by kernel_rfl
theorem rep2 : strings_Repeat (⟨#[61]⟩ : ByteArray) ((2 : Nat) : Int) = some (bstr (List.replicate 2 61)) := by kernel_rfl
theorem rep3 : strings_Repeat (⟨#[61]⟩ : ByteArray) ((3 : Nat) : Int) = some (bstr (List.replicate 3 61)) := by kernel_rfl
theorem rep_eq (k : Nat) (hk : k ≤ 3) : strings_Repeat (⟨#[61]⟩ : ByteArray) (k : Int) = some (bstr (List.replicate k 61)) := by
  have h : k = 0 ∨ k = 1 ∨ k = 2 ∨ k = 3 := by omega
  rcases h with rfl | rfl | rfl | rfl
  · exact rep0
  · exact rep1
  · exact rep2
  · exact rep3
theorem sbytes_rep (k : Nat) : sbytes (bstr (List.replicate k 61)) = List.replicate k 61 := sbytes_bstr (fun x hx => by rw [(List.mem_replicate.1 hx).2]; decide)
theorem byt_map (B : List Nat) (h : ∀ x ∈ B, x < 256) : byt (B.map cI) := by
  intro x hx
  obtain ⟨n, hn, rfl⟩ := List.mem_map.1 hx
  have := h n hn
  simp only [cI]; omega
theorem strO_of {l : List Int} (h : byt l) : strO l = some (bstr l) := by
  unfold strO
  rw [if_pos (List.all_eq_true.2 fun x hx => by have := h x hx; simpa using this)]
/-- A text of bytes. -/
def tx (l : List Nat) : ByteArray := bstr (l.map cI)
theorem tx_bytes {l : List Nat} (h : ∀ x ∈ l, x < 256) : sbytes (tx l) = l.map cI := sbytes_bstr (byt_map l h)
theorem sym_at (g i : Nat) (hi : i < 4) (hg : g < 16777216) : sg (g / 2 ^ (18 - 6 * i) % 64) = (symL g).getD i 0 := by
  have h : i = 0 ∨ i = 1 ∨ i = 2 ∨ i = 3 := by omega
  rcases h with rfl | rfl | rfl | rfl <;> simp [symL]
/-- One group written. -/
theorem enc_step (B : List Nat) (hB : ∀ x ∈ B, x < 256) (hl : B.length ≤ 100000) : cram_Encode (B.map cI) = some (tx (encN B)) := by
  have hin : ∀ n, n ≤ B.length → ∀ x ∈ B.take n, x < 256 := fun n _ x hx => hB x (List.mem_of_mem_take hx)
  have hlen : (B.map cI).length = B.length := List.length_map _
  obtain ⟨m, hm⟩ : ∃ m, (B.length + 2) / 3 = m := ⟨_, rfl⟩
  unfold cram_Encode
  refine bndL (s := (encN B).map cI) (loop_from (fun i => ((encN (B.take (3 * i))).map cI, ((3 * i : Nat) : Int))) m _ (by simp [encN]) (by simp only [BIG]; omega) (fun i hi => ?_) ?_) ?_
  · refine cnd_t (decide_eq_true (by rw [hlen]; omega)) ?_
    have hacc : ((encN (B.take (3 * i))).map cI).length ≤ 200000 := by
      rw [List.length_map, encN_len _ _ (Nat.le_refl _), List.length_take]; omega
    obtain ⟨p, hp⟩ : ∃ p, (B.drop (3 * i)).take 3 = p := ⟨_, rfl⟩
    obtain ⟨n, hn⟩ : ∃ n, p.length = n := ⟨_, rfl⟩
    have hn1 : n = min 3 (B.length - 3 * i) := by rw [← hn, ← hp, List.length_take, List.length_drop]
    have hp0 : 0 < n ∧ n ≤ 3 := by omega
    have hpb : ∀ x ∈ p, x < 256 := fun x hx => hB x (by rw [← hp] at hx; exact List.mem_of_mem_drop (List.mem_of_mem_take hx))
    have hnext : encN (B.take (3 * (i + 1))) = encN (B.take (3 * i)) ++ grp p := by
      have e : B.take (3 * (i + 1)) = B.take (3 * i) ++ p := by
        rw [← hp, show 3 * (i + 1) = 3 * i + 3 by omega, List.take_add]
      rw [e, encN_app i _ _ (by rw [List.length_take]; omega), encN_one p (by omega) (by omega)]
    refine bnd (some_wrap (by rw [hlen]; omega) (by rw [hlen]; omega)) ?_
    have hv3 : (if ((B.map cI).length : Int) - ((3 * i : Nat) : Int) < 3 then ((B.map cI).length : Int) - ((3 * i : Nat) : Int) else 3) = (n : Int) := by
      rw [hlen]; split <;> omega
    rw [hv3]
    refine bnd rfl (bnd (some_wrap (by omega) (by omega)) ?_)
    have e1 : ((3 * i : Nat) : Int) + (n : Int) = ((3 * i + n : Nat) : Int) := by omega
    rw [e1]
    have hsl : sliO (B.map cI) ((3 * i : Nat) : Int) ((3 * i + n : Nat) : Int) = some (p.map cI) := by
      rw [sli_nat _ (by omega) (by rw [hlen]; omega), ← List.map_drop, ← List.map_take, ← hp]
      congr 2
      rw [show 3 * i + n - 3 * i = n by omega, hn1]
      apply List.ext_getElem?
      intro j
      simp only [List.getElem?_take, List.getElem?_drop]
      split <;> split <;> first | rfl | omega | (rw [List.getElem?_eq_none (by omega)])
    refine bnd hsl ?_
    refine bndL (s := (gv p : Int)) (loop_from (fun j => ((gv (p.take j) : Int), (j : Int))) n _ (by simp [gv]) (by simp only [BIG]; omega) (fun j hj => ?_) ?_) ?_
    · have hpl : (p.map cI).length = n := by rw [List.length_map, hn]
      have hxb : p.getD j 0 < 256 := by
        rw [List.getD_eq_getElem?_getD, List.getElem?_eq_getElem (by omega : j < p.length)]; exact hpb _ (List.getElem_mem _)
      refine cnd_t (decide_eq_true (by rw [hpl]; omega)) ?_
      refine bnd (ixO_of (by rw [hpl]; omega)) (bnd (getB p (by omega)) (bnd rfl (bnd (some_wrap (by omega) (by omega)) (bnd (some_wrap (by omega) (by omega)) ?_))))
      have e2 : (16 : Int) - 8 * (j : Int) = ((16 - 8 * j : Nat) : Int) := by omega
      have e3 : IntKind.u32.wrap (cI (p.getD j 0)) = ((p.getD j 0 : Nat) : Int) := wrap32n _ (by omega)
      rw [e2, e3]
      have h16 : p.getD j 0 * 2 ^ (16 - 8 * j) < 4294967296 := by
        have : 2 ^ (16 - 8 * j) ≤ 2 ^ 16 := Nat.pow_le_pow_right (by decide) (by omega)
        calc p.getD j 0 * 2 ^ (16 - 8 * j) ≤ 255 * 2 ^ 16 := Nat.mul_le_mul (by omega) this
          _ < 4294967296 := by decide
      refine bnd (shl_u32 _ _ (by omega) h16) (bnd rfl ?_)
      rw [gv_next p hpb (by omega) j (by omega)]
      exact bnd (some_wrap (by omega) (by omega)) rfl
    · refine cnd_f (decide_eq_false (by rw [List.length_map, hn]; omega)) ?_
      rw [List.take_of_length_le (by omega)]
    have hg := gv_lt p hpb
    refine bnd (some_wrap (by omega) (by omega)) ?_
    have e4 : (n : Int) + 1 = ((n + 1 : Nat) : Int) := by omega
    rw [e4]
    refine bndL (s := (encN (B.take (3 * i))).map cI ++ ((symL (gv p)).take (n + 1)).map cI) (loop_from (fun j => ((encN (B.take (3 * i))).map cI ++ ((symL (gv p)).take j).map cI, (j : Int))) (n + 1) _ (by simp) (by simp only [BIG]; omega) (fun j hj => ?_) ?_) ?_
    · refine cnd_t (decide_eq_true (by omega)) ?_
      refine bnd (some_wrap (by omega) (by omega)) (bnd (some_wrap (by omega) (by omega)) ?_)
      have e5 : (18 : Int) - 6 * (j : Int) = ((18 - 6 * j : Nat) : Int) := by omega
      rw [e5]
      have hq : gv p / 2 ^ (18 - 6 * j) < 4294967296 := Nat.lt_of_le_of_lt (Nat.div_le_self _ _) (by omega)
      refine bnd (shr_n .u32 _ _ (by simp only [IntKind.bits]; omega)) (bnd rfl ?_)
      rw [and63 _ hq]
      refine bnd (sg_chr _ (Nat.mod_lt _ (by decide))) ?_
      rw [sym_at _ j (by omega) hg]
      refine bnd (app1 _ _ (by simp only [List.length_append, List.length_map, List.length_take, List.length_cons, List.length_nil] at hacc ⊢; omega)) (bnd (some_wrap (by omega) (by omega)) ?_)
      have ht : (symL (gv p)).take (j + 1) = (symL (gv p)).take j ++ [(symL (gv p)).getD j 0] := by
        have hj4 : j < (symL (gv p)).length := by simp only [symL, List.length_cons, List.length_nil]; omega
        rw [List.take_add_one, List.getElem?_eq_getElem hj4, List.getD_eq_getElem?_getD, List.getElem?_eq_getElem hj4]; rfl
      rw [ht, List.map_append, ← List.append_assoc]
      rfl
    · exact cnd_f (decide_eq_false (by omega)) rfl
    refine bnd (some_wrap (by omega) (by omega)) ?_
    have e6 : (3 : Int) - (n : Int) = ((3 - n : Nat) : Int) := by omega
    rw [e6]
    refine bnd (rep_eq _ (by omega)) ?_
    rw [sbytes_rep]
    refine bnd (app1 _ _ (by simp only [List.length_append, List.length_map, List.length_take, List.length_replicate] at hacc ⊢; omega)) (bnd (some_wrap (by omega) (by omega)) ?_)
    rw [hnext, List.map_append, List.append_assoc]
    have e7 : (grp p).map cI = ((symL (gv p)).take (n + 1)).map cI ++ List.replicate (3 - n) 61 := by
      rw [grp, List.map_append, hn, List.map_replicate]; rfl
    rw [e7]
    congr 4
  · refine cnd_f (decide_eq_false (by rw [hlen]; omega)) ?_
    rw [List.take_of_length_le (by omega)]
  · refine bnd (strO_of (byt_map _ (encN_lt _ _ (Nat.le_refl _)))) rfl
end Go.Abs.Sh
