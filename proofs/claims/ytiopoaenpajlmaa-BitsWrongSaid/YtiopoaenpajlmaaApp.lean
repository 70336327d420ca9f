/-
  Appends onto bytes of the call's own: of bytes written out, of another slice.
-/
import Derived.Test.YtiopoaenpajlmaaKeep
namespace Go.Proofs.Ytiopoaenpajlmaa
open Go.RowKit

theorem NewBytes.below {w w' w'' : World} {l : List UInt8} {v : Value} (h : NewBytes w w' l v) (hb : Below w'.heap.size w' w'') : NewBytes w w'' l v :=
  ⟨own_below h.1 hb, h.2.trans (hb.mono h.2.size)⟩
theorem NewBytes.before {w0 w w' : World} {l : List UInt8} {v : Value} (h : NewBytes w w' l v) (hb : Below w0.heap.size w0 w) : NewBytes w0 w' l v :=
  ⟨own_base h.1 hb.size, hb.trans (h.2.mono hb.size)⟩

theorem own_lt {w : World} {base : Nat} {e : TypeId} {size n : Nat} {v : Value} {xs : List Value} (h : w.ownsRow base e size v n xs) (g : Nat) (hg : v.ownBlock = some g) : g < w.heap.size := by
  rcases h.2 with ⟨rfl, _⟩ | ⟨g', cap, cur, rfl, _, hh, _⟩
  · simp [Value.ownBlock] at hg
  · have : g' = g := by simpa [Value.ownBlock] using hg
    subst this
    exact Blk.lt (t := e) (cs := cur) hh
theorem own_grown {w w' : World} {base : Nat} {e : TypeId} {size n : Nat} {v : Value} {xs : List Value} {row : Option Nat} (h : w.ownsRow base e size v n xs) (hg : w.grownBy w' row) (hne : ∀ g, v.ownBlock = some g → some g ≠ row) : w'.ownsRow base e size v n xs :=
  own_keep h fun g hv => hg.block g (own_lt h g hv) (hne g hv)
/-- 'append(v, xs...)', v bytes of the call's own -/
theorem wpList_append_new {ops : Array Oper} {rest : List Oper} {o : Oper} {a : Act} {Q : Exit → Act → World → Prop} (hgd : o.guard = none) (s x : Operand) (t : TypeId)
    (ho : o.op = .call { callee := .builtin .append, args := #[s, x], argTypes := #[t, t] }) (hu : Try.prog.underlying t = some (.slice 5))
    (w0 w : World) (l us : List UInt8) (v : Value) (hn : NewBytes w0 w l v) (hs : a.eval s = v) (A : Option Addr) (m c : Nat) (hx : a.eval x = .slice A m c) (hr : ∃ B, ByteS w B A m us) (hlen : l.length + m < 140737488355328)
    (h : ∀ A' k' w', NewBytes w0 w' (l ++ us) (.slice A' (l.length + m) k') → w.grownBy w' v.ownBlock → wpList Try.prog ops Q rest (a.put o.dst (.slice A' (l.length + m) k')) w') : wpList Try.prog ops Q (o :: rest) a w := by
  obtain ⟨i0, hi0, hz0, hz1, hz2⟩ := info_parts Try.infoU8
  obtain ⟨B, hr⟩ := hr
  refine wpList_append_any w hgd s x t ho w0.heap.size 5 i0 _ 1 1 hu hi0 hz0 hz1 hz2 rfl (by omega) v l.length (bv l) hs hn.1 B A m c (bv us) hx hr (bv_one us) (by simp only [maxLen]; omega) (by omega) hn.2.size fun v' w' hown hg hat => ?_
  obtain ⟨A', k', rfl, hr'⟩ := own_slice hown
  have hm := hr.len
  refine h A' k' w' ⟨?_, hn.2.grown hg hn.2.size (fun g hv => own_ge hn.1 g hv)⟩ hg
  rw [bv_append, List.length_append, hm]
  exact hown
end Go.Proofs.Ytiopoaenpajlmaa
