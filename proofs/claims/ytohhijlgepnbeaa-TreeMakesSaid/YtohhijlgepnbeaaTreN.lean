import Derived.Test.YtohhijlgepnbeaaTreM
namespace Go.Abs.Sh
set_option linter.unusedVariables false
set_option linter.unusedSimpArgs false
def mx (l : List Int) : Int := l.foldl (fun s x => if x > s then x else s) 0
theorem mx_take {l : List Int} {i : Nat} (h : i < l.length) : mx (l.take (i + 1)) = if l.getD i 0 > mx (l.take i) then l.getD i 0 else mx (l.take i) := by
  rw [take_succ_app h]
  unfold mx
  rw [List.foldl_append]
  rfl
theorem mx_ge (l : List Int) : ∀ n, n ≤ l.length → ∀ i, i < n → l.getD i 0 ≤ mx (l.take n)
  | 0, _, i, h => by omega
  | n + 1, h, i, hi => by
    rw [mx_take (by omega)]
    by_cases e : i = n
    · subst e; split <;> omega
    · have := mx_ge l n (by omega) i (by omega)
      split <;> omega
theorem mx_le {l : List Int} {b : Int} (h0 : 0 ≤ b) (hb : ∀ i, i < l.length → l.getD i 0 ≤ b) : ∀ n, n ≤ l.length → mx (l.take n) ≤ b
  | 0, _ => h0
  | n + 1, h => by
    rw [mx_take (by omega)]
    have := mx_le h0 hb n (by omega)
    have := hb n (by omega)
    split <;> omega
end Go.Abs.Sh
