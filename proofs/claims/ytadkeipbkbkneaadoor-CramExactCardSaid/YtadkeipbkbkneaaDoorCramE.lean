import Derived.Test.YtadkeipbkbkneaaDoorCramD
import Derived.Test.YtadkeipbkbkneaaDoorKeepM
namespace Go.Abs.Sh
set_option linter.unusedVariables false
set_option linter.unusedSimpArgs false
set_option maxRecDepth 100000

theorem cram_wakes : wherrylaw10_wakes = some true := by kernel_rfl
theorem byt_nat {b : List Int} (h : byt b) : ∃ B : List Nat, b = B.map cI ∧ ∀ x ∈ B, x < 256 := by
  refine ⟨b.map Int.toNat, ?_, ?_⟩
  · rw [List.map_map]
    conv => lhs; rw [← List.map_id b]
    refine List.map_congr_left fun x hx => ?_
    have := h x hx
    simp only [Function.comp, cI, id]; omega
  · intro x hx
    obtain ⟨y, hy, rfl⟩ := List.mem_map.1 hx
    have := h y hy; omega
theorem tx_of (s : ByteArray) : ∃ C : List Nat, s = tx C ∧ (∀ x ∈ C, x < 256) ∧ C.length = s.size := by
  obtain ⟨C, hC, h⟩ := byt_nat (byt_sbytes s)
  refine ⟨C, ?_, h, ?_⟩
  · rw [tx, ← hC, bstr_sbytes]
  · rw [← sbytes_len, hC, List.length_map]
theorem tx_inj {l m : List Nat} (hl : ∀ x ∈ l, x < 256) (hm : ∀ x ∈ m, x < 256) (h : tx l = tx m) : l = m := by
  have := congrArg sbytes h
  rw [tx_bytes hl, tx_bytes hm] at this
  exact (List.map_inj_right (fun x y h => by have h2 : (x : Int) = (y : Int) := h; omega)).1 this
theorem cI_map_inj {l m : List Nat} (h : l.map cI = m.map cI) : l = m := (List.map_inj_right (fun x y h => by have h2 : (x : Int) = (y : Int) := h; omega)).1 h

/-! Two digits for each byte. -/
def hxB : ByteArray := ⟨#[48, 49, 50, 51, 52, 53, 54, 55, 56, 57, 97, 98, 99, 100, 101, 102]⟩
def hx (v : Nat) : Nat := (hxB.data.toList.map UInt8.toNat).getD v 0
theorem hx_chr (v : Nat) (h : v < 16) : chrO hxB (v : Int) = some (cI (hx v)) := by
  have : ∀ v : Nat, v < 16 → chrO hxB (v : Int) = some (cI (hx v)) := by decide +kernel
  exact this v h
theorem hx_dig (v : Nat) (h : v < 16) : hx v < 256 ∧ wherrylaw10_digit (cI (hx v)) = some (v : Int) := by
  have : ∀ v : Nat, v < 16 → hx v < 256 ∧ wherrylaw10_digit (cI (hx v)) = some (v : Int) := by decide +kernel
  exact this v h
def hexN : List Nat → List Nat
  | [] => []
  | x :: r => hx (x / 16) :: hx (x % 16) :: hexN r
theorem hexN_app : ∀ p r : List Nat, hexN (p ++ r) = hexN p ++ hexN r
  | [], r => rfl
  | x :: p, r => by simp only [List.cons_append, hexN, hexN_app p r]
theorem hexN_len : ∀ p : List Nat, (hexN p).length = 2 * p.length
  | [] => rfl
  | x :: p => by simp only [hexN, List.length_cons, hexN_len p]; omega
theorem hexN_lt : ∀ p : List Nat, (∀ x ∈ p, x < 256) → ∀ x ∈ hexN p, x < 256
  | [], _ => by intro x hx; cases hx
  | y :: p, h => by
    intro x hx1
    have hy := h y (by simp)
    simp only [hexN, List.mem_cons] at hx1
    rcases hx1 with rfl | rfl | hx1
    · exact (hx_dig _ (by omega)).1
    · exact (hx_dig _ (Nat.mod_lt _ (by decide))).1
    · exact hexN_lt p (fun x hx => h x (by simp [hx])) x hx1
theorem hexN_get : ∀ (p : List Nat) (i : Nat), i < p.length → (hexN p).getD (2 * i) 0 = hx (p.getD i 0 / 16) ∧ (hexN p).getD (2 * i + 1) 0 = hx (p.getD i 0 % 16)
  | y :: p, 0, _ => ⟨rfl, rfl⟩
  | y :: p, i + 1, h => by
    have := hexN_get p i (by simpa using h)
    rw [show 2 * (i + 1) + 1 = 2 * i + 1 + 1 + 1 by omega, show 2 * (i + 1) = 2 * i + 1 + 1 by omega]
    simpa [hexN, List.getD_cons_succ] using this
theorem hx_inj {v u : Nat} (hv : v < 16) (hu : u < 16) (h : hx v = hx u) : v = u := by
  have h1 := (hx_dig v hv).2; have h2 := (hx_dig u hu).2
  rw [h, h2] at h1
  have := Option.some.inj h1; omega
theorem hexN_inj : ∀ (p q : List Nat), (∀ x ∈ p, x < 256) → (∀ x ∈ q, x < 256) → hexN p = hexN q → p = q
  | [], [], _, _, _ => rfl
  | [], y :: q, _, _, h => by simp [hexN] at h
  | x :: p, [], _, _, h => by simp [hexN] at h
  | x :: p, y :: q, hp, hq, h => by
    simp only [hexN, List.cons.injEq] at h
    have hx := hp x (by simp); have hy := hq y (by simp)
    have h1 := hx_inj (by omega) (by omega) h.1
    have h2 := hx_inj (Nat.mod_lt _ (by decide)) (Nat.mod_lt _ (by decide)) h.2.1
    rw [hexN_inj p q (fun x hx => hp x (by simp [hx])) (fun x hx => hq x (by simp [hx])) h.2.2, show x = y by omega]
theorem u8_and15 (a : Nat) (ha : a < 256) : bits .and .u8 (a : Int) 15 = ((a % 16 : Nat) : Int) := by
  show IntKind.u8.wrap ((BitVec.ofInt 8 (a : Int) &&& BitVec.ofInt 8 ((15 : Nat) : Int)).toNat : Int) = _
  have h : ∀ n : Nat, n < 256 → (BitVec.ofInt 8 (n : Int)).toNat = n := fun n hn => by
    rw [BitVec.ofInt_natCast, BitVec.toNat_ofNat]; omega
  rw [BitVec.toNat_and, h a ha, h 15 (by omega), show (15 : Nat) = 2 ^ 4 - 1 from rfl, Nat.and_two_pow_sub_one_eq_mod, u8_mod]
  congr 1
  have := Nat.mod_lt a (show 0 < 2 ^ 4 by decide)
  omega
theorem hex_eq (B : List Nat) (hB : ∀ x ∈ B, x < 256) (hl : B.length ≤ 100000) : cram_Hex (B.map cI) = some (tx (hexN B)) := by
  unfold cram_Hex
  have hlen : (B.map cI).length = B.length := List.length_map _
  refine bndL (s := (hexN B).map cI) (loop_from (fun i => ((hexN (B.take i)).map cI, (i : Int))) B.length _ rfl (by simp only [BIG]; omega) (fun i hi => ?_) ?_) ?_
  · refine cnd_t (decide_eq_true (by rw [hlen]; omega)) ?_
    have hx : B.getD i 0 < 256 := by
      rw [List.getD_eq_getElem?_getD, List.getElem?_eq_getElem hi]; exact hB _ (List.getElem_mem _)
    have hacc : ((hexN (B.take i)).map cI).length ≤ 200000 := by rw [List.length_map, hexN_len, List.length_take]; omega
    refine bnd (ixO_of (by rw [hlen]; omega)) (bnd (getB B hi) (bnd (shr_n .u8 _ 4 (by decide)) (bnd (hx_chr _ (by omega)) (bnd (app1 _ _ (by simp only [List.length_cons, List.length_nil]; omega)) (bnd rfl ?_)))))
    rw [show cI (B.getD i 0) = ((B.getD i 0 : Nat) : Int) from rfl, u8_and15 _ hx]
    refine bnd (hx_chr _ (Nat.mod_lt _ (by decide))) (bnd (app1 _ _ (by simp only [List.length_append, List.length_cons, List.length_nil]; omega)) (bnd (some_wrap (by omega) (by omega)) ?_))
    have ht : B.take (i + 1) = B.take i ++ [B.getD i 0] := by
      rw [List.take_add_one, List.getElem?_eq_getElem hi, List.getD_eq_getElem?_getD, List.getElem?_eq_getElem hi]; rfl
    rw [ht, hexN_app, List.map_append, List.append_assoc]
    rfl
  · refine cnd_f (decide_eq_false (by rw [hlen]; omega)) ?_
    rw [List.take_length]
  · exact bnd (strO_of (byt_map _ (hexN_lt B hB))) rfl

/-! What is encoded is decoded. -/
theorem dec_of_enc (B : List Nat) (hB : ∀ x ∈ B, x < 256) (hl : B.length ≤ 60000) : cram_Decode (tx (encN B)) = some (B.map cI, 0) := by
  have := encN_len _ B (Nat.le_refl _)
  rw [dec_eq _ (encN_lt _ _ (Nat.le_refl _)) (by omega), decT_enc B hB, if_pos rfl]
theorem enc_inj {B D : List Nat} (hB : ∀ x ∈ B, x < 256) (hD : ∀ x ∈ D, x < 256) (h : tx (encN B) = tx (encN D)) : B = D := by
  have := tx_inj (encN_lt _ _ (Nat.le_refl _)) (encN_lt _ _ (Nat.le_refl _)) h
  rw [← decT_enc B hB, this, decT_enc D hD]
theorem cramBack_true (b : List Int) (s : ByteArray) (hb : wfL (wfI .u8) b) : wherrylaw10_CramBack b s = some true := by
  unfold wherrylaw10_CramBack
  by_cases h1 : 300 < b.length
  · exact bndL (s := true) (cnd_t (decide_eq_true (by omega)) rfl) rfl
  by_cases h2 : 400 < s.size
  · exact bndL (s := true) (cnd_f (decide_eq_false (by omega)) (by rw [decide_eq_true (by omega)])) rfl
  refine bndL (s := false) (cnd_f (decide_eq_false (by omega)) (by rw [decide_eq_false (by omega)])) (cnd_f rfl ?_)
  obtain ⟨B, rfl, hB⟩ := byt_nat (byt_of_wf hb)
  obtain ⟨C, rfl, hC, hCl⟩ := tx_of s
  rw [List.length_map] at h1
  have hlen := encN_len _ B (Nat.le_refl _)
  refine bnd (enc_step B hB (by omega)) (bnd (dec_of_enc B hB (by omega)) ?_)
  refine bndL (s := false) (cnd_f rfl (bnd (keepBytes_eq _ _ (by rw [List.length_map]; omega)) (cnd_f (by simp) ?_))) (cnd_f rfl ?_)
  · rw [List.length_map]
    have e : (B.length : Int) + 2 = ((B.length + 2 : Nat) : Int) := by omega
    refine bnd (some_wrap (by omega) (by omega)) ?_
    rw [e]
    have hq := quo_nat (B.length + 2) 3 (by decide) (by omega)
    refine bnd hq (bnd (some_wrap (by omega) (by omega)) ?_)
    rw [tx_size, hlen]
    have : ((((B.length + 2) / 3 * 4 : Nat) : Int) != ((((B.length + 2) / 3 : Nat) : Int) * 4)) = false := by rw [bne_eq_false_iff_eq]; omega
    rw [this]
  · refine bnd (dec_eq C hC (by rw [tx_size] at hCl h2; omega)) ?_
    refine bndL (s := true) ?_ rfl
    by_cases h : tx (encN (decT C)) = tx C
    · rw [if_pos h]
      have hd : (decT C).length ≤ C.length := by
        have := decR_len _ (C.take (4 * (C.length / 4))) (Nat.le_refl _)
        rw [List.length_take] at this; unfold decT; omega
      rw [tx_size] at hCl h2
      refine cnd_t rfl (bnd (enc_step _ (decR_lt _ _ (Nat.le_refl _)) (by omega)) (cnd_t (by rw [toList_beq]; simpa using h) (bnd cram_wakes rfl)))
    · rw [if_neg h]
      exact cnd_f rfl (cnd_t rfl (cnd_t rfl (bnd cram_wakes rfl)))
end Go.Abs.Sh
