/-
  BitsFilled, its byte as a number.
-/
import Derived.Test.YtiopoaenpajlmaaBitsFilled
namespace Go.Proofs.Ytiopoaenpajlmaa
open Go.RowKit

theorem bitsFilled_walkI (w : World) (A1 : Option Addr) (len1 c1 : Nat) (l1 : List Int) (h1 : IntS w w.heap.size A1 len1 l1) (m1 : len1 ≤ maxLen ∧ ∀ n ∈ l1, (Lit.int .i64 n).wf = true) (v : Int) (wv : (Lit.int .u8 v).wf = true) :
    Calls Try.prog 7 #[.slice A1 len1 c1, .int .u8 v] w fun e w' => e = .returned (.bool true) ∧ Below w.heap.size w w' := by
  have h : 0 ≤ v ∧ v < 256 := by
    simp only [Lit.wf] at wv
    have hm : IntKind.u8.min = 0 := rfl
    have hM : IntKind.u8.max = 255 := rfl
    simp at wv
    omega
  have e : v = ((UInt8.ofNat v.toNat).toNat : Int) := by
    rw [UInt8.toNat_ofNat']; omega
  rw [e]
  exact bitsFilled_walk w A1 len1 c1 l1 h1 m1 _
end Go.Proofs.Ytiopoaenpajlmaa
