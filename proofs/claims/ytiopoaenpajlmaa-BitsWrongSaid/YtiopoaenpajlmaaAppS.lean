/-
  Appends onto bytes of the call's own, as an arm of a region that draws its order.
-/
import Derived.Test.YtiopoaenpajlmaaApp
namespace Go.Proofs.Ytiopoaenpajlmaa
open Go.RowKit

theorem step_append_new {ops : Array Oper} {o : Oper} {a : Act} {K : Act → World → Prop} {Q : Exit → Act → World → Prop} {E : Prop} (hgd : o.guard = none) (s x : Operand) (t : TypeId)
    (ho : o.op = .call { callee := .builtin .append, args := #[s, x], argTypes := #[t, t] }) (hu : Try.prog.underlying t = some (.slice 5))
    (w0 w : World) (l us : List UInt8) (v : Value) (hs : a.eval s = v) (hn : NewBytes w0 w l v) (A : Option Addr) (m c : Nat) (hx : a.eval x = .slice A m c) (hr : ∃ B, ByteS w B A m us) (hlen : l.length + m < 140737488355328)
    (h : ∀ A' k' w', NewBytes w0 w' (l ++ us) (.slice A' (l.length + m) k') → w.grownBy w' v.ownBlock → K (a.put o.dst (.slice A' (l.length + m) k')) w') :
    if Region.wanted o (yielded ops a.tmps) = true then Oper.wp Try.prog o a w K Q else E := by
  obtain ⟨i0, hi0, hz0, hz1, hz2⟩ := info_parts Try.infoU8
  obtain ⟨B, hr⟩ := hr
  refine step_append_any w hgd s x t ho w0.heap.size 5 i0 _ 1 1 hu hi0 hz0 hz1 hz2 rfl (by omega) v l.length (bv l) hs hn.1 B A m c (bv us) hx hr (bv_one us) (by simp only [maxLen]; omega) (by omega) hn.2.size fun v' w' hown hg hat => ?_
  obtain ⟨A', k', rfl, hr'⟩ := own_slice hown
  have hm := hr.len
  refine h A' k' w' ⟨?_, hn.2.grown hg hn.2.size (fun g hv => own_ge hn.1 g hv)⟩ hg
  rw [bv_append, List.length_append, hm]
  exact hown
end Go.Proofs.Ytiopoaenpajlmaa
