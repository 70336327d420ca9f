/-
  From what is proved of the told program to a call's contract.
-/
import Derived.Test.YtdligpdfcfbgpaaFrame
import Derived.Test.YtdligpdfcfbgpaaAO
namespace Go.Proofs.Ytdligpdfcfbgpaa
open Go.ChangeShapes Go.WideShapes Go.ChangeAt Go.RowKit Go.Abs

theorem in_ok {f : FuncId} {avs : List AV} {xs : List Value} {W : World} {b : Bool} (ok : FnOK Try.prog f avs (.v (.bool b))) (hr : Rs (inW W) V0 W avs xs []) :
    Calls Try.prog f xs.toArray W (fun e W' => e = .returned (.bool b) ∧ Below W.heap.size W W') := by
  refine (ok _ _ W xs (fun b hb => by rcases hb with hb | hb; exact hb.elim; exact hb) hr).mono ?_
  rintro e W' ⟨x, rfl, hc, Imm', o, _, _, hR, _, _⟩
  simp only [R] at hR
  rw [hR.1]
  exact ⟨rfl, hc.os, hc.tape, hc.output, hc.size, fun k hk => hc.block k hk (by simp)⟩
end Go.Proofs.Ytdligpdfcfbgpaa
