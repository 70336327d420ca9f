import Derived.Test.YtenfngliiibiiaaFrameW
import Derived.Test.YtenfngliiibiiaaSumsM
namespace Go.Abs.Sh
set_option linter.unusedVariables false
set_option linter.unusedSimpArgs false

def isBytes (l : List Int) : Prop := ∀ n ∈ l, 0 ≤ n ∧ n < 256
theorem wrap_u8 (n : Int) : IntKind.u8.wrap n = n % 256 := by
  simp only [IntKind.wrap, IntKind.bits, IntKind.signed]
  have e : (2 : Int) ^ 8 = 256 := by decide
  simp [e]
theorem shr8 (n : Int) (h : 0 ≤ n) : shrO .i64 n 8 = some (n / 256) := by
  simp only [shrO, IntKind.bits]
  rw [if_pos (by omega)]
  have e : (2 : Int) ^ min (8 : Int).toNat 64 = 256 := by decide
  rw [e, Int.fdiv_eq_ediv_of_nonneg _ (by omega)]
theorem app_of {A : Type} (l m : List A) (h : l.length + m.length < 4294967296) : appO 1 l m = some (l ++ m) := by
  simp only [appO]; rw [if_pos (by omega)]

/-- A frame's bytes but the checksum. -/
def body (f : T_Frame) : List Int := [f.Kind, f.Number / 256, f.Number % 256, f.Offset / 256, f.Offset % 256, f.Seq, (f.Data.length : Int)] ++ f.Data
def sumOf (l : List Int) : Int := ((short (nats l) : Nat) : Int)
def whole (f : T_Frame) : List Int := body f ++ [sumOf (body f) % 256, sumOf (body f) / 256]

theorem good_num {f : T_Frame} (h : good f = true) : (1 ≤ f.Kind ∧ f.Kind ≤ 5) ∧ (1 ≤ f.Number ∧ f.Number ≤ 65535) ∧ (0 ≤ f.Offset ∧ f.Offset ≤ 5000) ∧ (0 ≤ f.Seq ∧ f.Seq ≤ 7) ∧ f.Data.length ≤ 48 := by
  simp only [good, numIn, offIn, seqIn, Bool.and_eq_true, Bool.or_eq_true, decide_eq_true_eq, beq_iff_eq] at h
  omega

theorem body_bytes {f : T_Frame} (h : good f = true) (hb : isBytes f.Data) : isBytes (body f) := by
  obtain ⟨h1, h2, h3, h4, h5⟩ := good_num h
  intro n hn
  simp only [body, List.mem_append, List.mem_cons, List.not_mem_nil, or_false] at hn
  rcases hn with (hn | hn | hn | hn | hn | hn | hn) | hn
  · omega
  · omega
  · omega
  · omega
  · omega
  · omega
  · omega
  · exact hb n hn

theorem sumOf_lt {l : List Int} (h : isBytes l) : 0 ≤ sumOf l ∧ sumOf l < 65536 := by
  have := short_lt (nats l) (nats_bytes h)
  unfold sumOf; omega

theorem bytes_good {f : T_Frame} (h : good f = true) (hb : isBytes f.Data) : frame_Bytes f = some (whole f, 0) := by
  obtain ⟨h1, h2, h3, h4, h5⟩ := good_num h
  unfold frame_Bytes
  refine bnd (check_eq f) ?_
  have hbo := body_bytes h hb
  have hs := sumOf_lt hbo
  have hlen : (body f).length = 7 + f.Data.length := by simp [body]; omega
  have e0 : (cond (good f) (0 : Int) 1 != 0) = false := by rw [h]; rfl
  rw [e0]
  simp only [cond_false, Option.bind_some, shr8 _ (show 0 ≤ f.Number by omega), shr8 _ (show 0 ≤ f.Offset by omega), wrap_u8]
  have eb : [f.Kind % 256, f.Number / 256 % 256, f.Number % 256, f.Offset / 256 % 256, f.Offset % 256, f.Seq % 256, (f.Data.length : Int) % 256] = [f.Kind, f.Number / 256, f.Number % 256, f.Offset / 256, f.Offset % 256, f.Seq, (f.Data.length : Int)] := by
    rw [show f.Kind % 256 = f.Kind by omega, show f.Number / 256 % 256 = f.Number / 256 by omega, show f.Offset / 256 % 256 = f.Offset / 256 by omega, show f.Seq % 256 = f.Seq by omega, show (f.Data.length : Int) % 256 = (f.Data.length : Int) by omega]
  rw [eb]
  refine bnd (x := body f) (app_of _ _ (by simp; omega)) ?_
  refine bnd (x := sumOf (body f)) (short_eq _ hbo (by omega)) ?_
  simp only [Option.bind_some, shr8 _ hs.1]
  rw [show sumOf (body f) / 256 % 256 = sumOf (body f) / 256 by omega]
  refine bnd (x := whole f) (app_of _ _ (by simp; omega)) rfl
end Go.Abs.Sh
