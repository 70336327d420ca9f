import Derived.Test.YtenfngliiibiiaaSpoilsM
import Derived.Test.YtenfngliiibiiaaFrameC
import Derived.Test.YtenfngliiibiiaaCrcM
namespace Go.Abs.Sh
set_option linter.unusedVariables false
set_option linter.unusedSimpArgs false

theorem nats_getD (l : List Int) (i : Nat) : (nats l).getD i 0 = (l.getD i 0).toNat := by
  simp only [nats, List.getD_eq_getElem?_getD, List.getElem?_map]
  cases l[i]? <;> simp
theorem nats_append (a b : List Int) : nats (a ++ b) = nats a ++ nats b := by simp [nats]

theorem spoiltRead (f : T_Frame) (gf : good f = true) (hb : isBytes f.Data) (c : List Int) (hc : isBytes c) (hl : c.length = (whole f).length) (F M : Nat) (hF : F < 8 * (whole f).length) (hM0 : M.testBit 0 = true)
    (h : ∀ q, q < 8 * (whole f).length → bitAt c q = (bitAt (whole f) q ^^ (decide (F ≤ q) && decide (q < F + 16) && M.testBit (q - F)))) : frame_Read c = some (zeroF, 6) := by
  have hwl := whole_length f
  have h48 := (good_num gf).2.2.2.2
  have hwb := whole_bytes gf hb
  have hbo := body_bytes gf hb
  have hsplit : c = c.take (c.length - 2) ++ c.drop (c.length - 2) := (List.take_append_drop _ _).symm
  obtain ⟨q0, q1, hq⟩ : ∃ q0 q1, c.drop (c.length - 2) = [q0, q1] := by
    have : (c.drop (c.length - 2)).length = 2 := by simp; omega
    match c.drop (c.length - 2), this with
    | [x, y], _ => exact ⟨x, y, rfl⟩
  obtain ⟨a0, a1, a2, a3, a4, a5, a6, d, hp⟩ : ∃ a0 a1 a2 a3 a4 a5 a6 d, c.take (c.length - 2) = a0 :: a1 :: a2 :: a3 :: a4 :: a5 :: a6 :: d := by
    have : 7 ≤ (c.take (c.length - 2)).length := by simp; omega
    match c.take (c.length - 2), this with
    | x0 :: x1 :: x2 :: x3 :: x4 :: x5 :: x6 :: d, _ => exact ⟨_, _, _, _, _, _, _, _, rfl⟩
  have hd : d.length ≤ 48 := by
    have := congrArg List.length hp
    simp at this; omega
  rw [hp, hq] at hsplit
  have hpb : isBytes (a0 :: a1 :: a2 :: a3 :: a4 :: a5 :: a6 :: d) := fun n hn => hc n (by rw [hsplit]; exact List.mem_append_left _ hn)
  have hq0 := hc q0 (by rw [hsplit]; simp)
  have hq1 := hc q1 (by rw [hsplit]; simp)
  have hr := read_eq a0 a1 a2 a3 a4 a5 a6 d q0 q1 hpb hq0 hq1 hd
  rw [← hsplit] at hr
  rw [hr, if_pos]
  intro hs
  have k1 : reg 33800 (nats c) 65535 = sn 33800 16 65535 := by
    rw [hsplit, nats_append]
    refine reg_sealed _ q0.toNat q1.toNat (nats_bytes hpb) (by omega) (by omega) ?_
    unfold sumOf at hs; omega
  have hsw := sumOf_lt hbo
  have k2 : reg 33800 (nats (whole f)) 65535 = sn 33800 16 65535 := by
    rw [whole, nats_append]
    refine reg_sealed _ (sumOf (body f) % 256).toNat (sumOf (body f) / 256).toNat (nats_bytes hbo) (by omega) (by omega) ?_
    unfold sumOf at *; omega
  refine burst (nats (whole f)) (nats c) F M (nats_bytes hwb) (nats_bytes hc) (by simp [nats, hl]) (by simpa [nats] using hF) hM0 ?_ 65535 (k2.trans k1.symm)
  intro q hq
  have := h q (by simpa [nats] using hq)
  simp only [bitAt] at this
  rw [nats_getD, nats_getD]
  exact this

theorem frameSpoilt_true (f : T_Frame) (at_ p : Int) (hb : isBytes f.Data) : wherrylaw20_FrameSpoilt f at_ p = some true := by
  unfold wherrylaw20_FrameSpoilt
  by_cases l1 : 300 < f.Data.length
  · exact cnd_t (by simp; omega) rfl
  refine cnd_f (by simp; omega) ?_
  rcases bytes_cases f hb with ⟨gf, h⟩ | ⟨gf, h⟩
  case inr => exact bnd h (cnd_t rfl (bnd wakes20 rfl))
  refine bnd h (cnd_f rfl ?_)
  have hwl := whole_length f
  have h48 := (good_num gf).2.2.2.2
  have hwb := whole_bytes gf hb
  have hne : whole f ≠ [] := fun e => by rw [e] at hwl; simp at hwl; omega
  have hF : spF (whole f) at_ < 8 * (whole f).length := by
    have h1 := Int.emod_nonneg at_ (show ((8 * (whole f).length : Nat) : Int) ≠ 0 by omega)
    have h2 := Int.emod_lt_of_pos at_ (show 0 < ((8 * (whole f).length : Nat) : Int) by omega)
    unfold spF; omega
  obtain ⟨c, hc, hcl, hcb, hbits⟩ := spoil_eq (whole f) at_ p hwb (by omega) hne
  have hcne : c ≠ [] := fun e => by rw [e] at hcl; simp at hcl; omega
  obtain ⟨s, hs, hsl, hsb, hbits2⟩ := spoil_eq c at_ p hcb (by omega) hcne
  have hFF : spF c at_ = spF (whole f) at_ := by unfold spF; rw [hcl]
  rw [hFF] at hbits2
  have hread := spoiltRead f gf hb c hcb hcl _ _ hF (spM_0 p) hbits
  have hback : s = whole f := bits_ext hsb hwb (by omega) fun q hq => by
    have hq' : q < 8 * (whole f).length := by omega
    rw [hbits2 q (by omega), hbits q hq']
    cases bitAt (whole f) q <;> cases (decide (spF (whole f) at_ ≤ q) && decide (q < spF (whole f) at_ + 16) && (spM p).testBit (q - spF (whole f) at_)) <;> rfl
  have hcw : c ≠ whole f := by
    intro e
    have := hbits _ hF
    rw [e, Nat.sub_self, spM_0] at this
    simp at this
  refine bnd hc (bnd hread (bndL (s := true) (cnd_t rfl (bnd (keepFrame_eq zeroF zeroF (by decide)) (cnd_t rfl (cnd_t ?_ (bnd (keepBytes_eq c (whole f) (by omega)) (cnd_t ?_ (bnd hs (bnd (keepBytes_eq s (whole f) (by omega)) (cnd_t ?_ (bnd wakes20 rfl)))))))))) rfl))
  · rw [hcl]; simp
  · simp [hcw]
  · simp [hback]
end Go.Abs.Sh
