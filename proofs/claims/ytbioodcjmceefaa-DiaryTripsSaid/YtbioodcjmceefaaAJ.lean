/-
  '==' on arrays and structs whose cells are numbers, truth values, texts.
-/
import Derived.Test.YtbioodcjmceefaaAI
import Derived.ChangeKeysEq
namespace Go.Abs

/-- What '==' says of two cells of a plain type. -/
def eqV (P : Program) (t : TypeId) (x y : Value) : Option Bool :=
  match P.underlying t, x, y with
  | some .bool, .bool a, .bool b => some (a == b)
  | some (.int _), .int k a, .int k' b => if k = k' then some (a == b) else none
  | some .string, .string a, .string b => some (a.toList == b.toList)
  | _, _, _ => none
def eqVs (P : Program) : List TypeId → List Value → List Value → Option Bool
  | [], [], [] => some true
  | t :: ts, x :: xs, y :: ys => match eqV P t x y, eqVs P ts xs ys with
    | some a, some b => some (a && b)
    | _, _ => none
  | _, _, _ => none

section
variable {P : Program} {ty : TypeId} {pos : String} {aft : Array Edge} {gd : Option (Nat × Bool)}

theorem run_eqV (w : World) (d : Nat) {t : TypeId} {x y : Value} {b : Bool} (h : eqV P t x y = some b) : (Op.equalIn (d + 1) t x y).run P w = .ok b w := by
  unfold eqV at h
  split at h
  · rename_i hu; cases h; exact run_equalIn_bool' w d t _ _ hu
  · rename_i k a k' b' hu
    split at h
    · rename_i hk; subst hk; cases h; exact run_equalIn_int w d t _ _ _ _ hu
    · cases h
  · rename_i hu; cases h; exact run_equalIn_string w d t _ _ hu
  · cases h
theorem eqV_plain {t : TypeId} {x y : Value} {b : Bool} (h : eqV P t x y = some b) : ∃ td, P.underlying t = some td ∧ isAggD td = false := by
  unfold eqV at h
  split at h
  · rename_i hu; exact ⟨_, hu, rfl⟩
  · rename_i hu; exact ⟨_, hu, rfl⟩
  · rename_i hu; exact ⟨_, hu, rfl⟩
  · cases h
theorem run_part_v (w : World) {t : TypeId} {td : TypeDesc} (hu : P.underlying t = some td) (ha : isAggD td = false) {cs : Array Value} {off : Nat} {v : Value} (hv : cs[off]? = some v) : (part t cs off).run P w = .ok v w := by
  cases td <;> simp_all [part, isAgg, run_underlying hu, isAggD]

theorem run_eqFields_v (d : Nat) (xs ys : Array Value) : ∀ (fs : List Field) (k : Nat) (l m : List Value) (b : Bool) (w : World), (∀ f ∈ fs, f.name ≠ "_") → fs.map (·.offset) = (List.range' k fs.length) → xs.toList.drop k = l → ys.toList.drop k = m →
    eqVs P (fs.map (·.type)) l m = some b → (Op.eqFields (d + 1) xs ys fs).run P w = .ok b w
  | [], k, l, m, b, w, _, _, _, _, h => by
    cases l <;> cases m <;> simp [eqVs] at h
    subst h
    simp [Op.eqFields]
  | f :: fs, k, l, m, b, w, hn, ho, hl, hm, h => by
    have hf := hn f (by simp)
    simp only [List.map_cons, List.length_cons, List.range'_succ, List.cons.injEq] at ho
    cases l with
    | nil => simp [eqVs] at h
    | cons x l =>
      cases m with
      | nil => simp [eqVs] at h
      | cons y m =>
        simp only [List.map_cons, eqVs] at h
        cases h1 : eqV P f.type x y with
        | none => simp [h1] at h
        | some a =>
          cases h2 : eqVs P (fs.map (·.type)) l m with
          | none => simp [h1, h2] at h
          | some c =>
            simp only [h1, h2, Option.some.injEq] at h
            subst h
            obtain ⟨td, hu, ha⟩ := eqV_plain h1
            have gx : xs[f.offset]? = some x := by
              rw [ho.1, ← Array.getElem?_toList]
              have := congrArg (fun z => z[0]?) hl
              simpa using this
            have gy : ys[f.offset]? = some y := by
              rw [ho.1, ← Array.getElem?_toList]
              have := congrArg (fun z => z[0]?) hm
              simpa using this
            have hl' : xs.toList.drop (k + 1) = l := by rw [← List.tail_drop, hl]; rfl
            have hm' : ys.toList.drop (k + 1) = m := by rw [← List.tail_drop, hm]; rfl
            have ih := run_eqFields_v d xs ys fs (k + 1) l m c w (fun f hf => hn f (by simp [hf])) ho.2 hl' hm' h2
            simp only [Op.eqFields, ne_eq, hf, not_false_eq_true, if_true, Sem.run_bind, run_part_v w hu ha gx, run_part_v w hu ha gy, Result.andThen_ok, run_eqV w d h1]
            cases a
            · simp
            · simpa using ih

theorem run_eqItems_v (d : Nat) (e : TypeId) (xs ys : Array Value) : ∀ (n k : Nat) (l m : List Value) (b : Bool) (w : World), xs.toList.drop k = l → ys.toList.drop k = m →
    eqVs P (List.replicate n e) l m = some b → (Op.eqItems (d + 1) e 1 xs ys (List.range' k n)).run P w = .ok b w
  | 0, k, l, m, b, w, _, _, h => by
    cases l <;> cases m <;> simp [eqVs] at h
    subst h
    simp [Op.eqItems]
  | n + 1, k, l, m, b, w, hl, hm, h => by
    rw [List.replicate_succ] at h
    cases l with
    | nil => simp [eqVs] at h
    | cons x l =>
      cases m with
      | nil => simp [eqVs] at h
      | cons y m =>
        simp only [eqVs] at h
        cases h1 : eqV P e x y with
        | none => simp [h1] at h
        | some a =>
          cases h2 : eqVs P (List.replicate n e) l m with
          | none => simp [h1, h2] at h
          | some c =>
            simp only [h1, h2, Option.some.injEq] at h
            subst h
            obtain ⟨td, hu, ha⟩ := eqV_plain h1
            have gx : xs[k * 1]? = some x := by
              rw [Nat.mul_one, ← Array.getElem?_toList]
              have := congrArg (fun z => z[0]?) hl
              simpa using this
            have gy : ys[k * 1]? = some y := by
              rw [Nat.mul_one, ← Array.getElem?_toList]
              have := congrArg (fun z => z[0]?) hm
              simpa using this
            have hl' : xs.toList.drop (k + 1) = l := by rw [← List.tail_drop, hl]; rfl
            have hm' : ys.toList.drop (k + 1) = m := by rw [← List.tail_drop, hm]; rfl
            have ih := run_eqItems_v d e xs ys n (k + 1) l m c w hl' hm' h2
            simp only [List.range'_succ, Op.eqItems, Sem.run_bind, run_part_v w hu ha gx, run_part_v w hu ha gy, Result.andThen_ok, run_eqV w d h1]
            cases a
            · simp
            · simpa using ih

theorem eqVs_ints {e : TypeId} {k k' : IntKind} (he : P.underlying e = some (.int k')) : ∀ (l m : List Int), l.length = m.length → eqVs P (List.replicate l.length e) (l.map (Value.int k)) (m.map (Value.int k)) = some (l == m)
  | [], [], _ => by simp [eqVs]
  | x :: l, y :: m, h => by
    have h1 : eqV P e (.int k x) (.int k y) = some (x == y) := by simp [eqV, he]
    simp only [List.length_cons, List.replicate_succ, List.map_cons, eqVs, h1, eqVs_ints he l m (by simpa using h)]
    simp
  | [], _ :: _, h => by simp at h
  | _ :: _, [], h => by simp at h

theorem eqGuard_agg (w : World) {op : BinOp} {t : TypeId} {x y : Operand} {a b : Array Value} (hg : P.eqGuardType P.depth t = false) : (eqGuard op t x y (.agg a) (.agg b)).run P w = .ok () w := by
  unfold eqGuard
  cases op <;> simp [hg]

theorem ln_n {α : Type} {n : Nat} {l v : List α} (h : lnO n l = some v) : l.length = n := by
  unfold lnO at h
  split at h
  · assumption
  · cases h
/-- '==' of two arrays of numbers. -/
theorem op_eq_arr (N : List Ent) (d : Nat) {t t' e : TypeId} {n : Nat} {i : TypeInfo} {x y : Operand} {k k' : IntKind} {l m : List Int} (r : Bool) (hT : P.underlying t = some (.array n e)) (he : P.underlying e = some (.int k')) (hi : P.info? e = some i) (hce : P.cellsOf e = 1) (hg : P.eqGuardType P.depth t = false)
    (hx : rd N x = .v (.agg (l.map (Value.int k)).toArray)) (hy : rd N y = .v (.agg (m.map (Value.int k)).toArray)) (hl : l.length = n) (hm : m.length = n) (hr : (l == m) = r) :
    LOp P ⟨some d, .binOp .eql t x y t', ty, pos, aft, gd⟩ N [] [(d, .v (.bool r))] [.slot d] := by
  subst hr
  refine LOp.v rfl fun g V oN ac w hp => ?_
  have h1 := rd_v hp.val hp.esN hx
  have h2 := rd_v hp.val hp.esN hy
  have he2 : (Op.equal t (.agg (l.map (Value.int k)).toArray) (.agg (m.map (Value.int k)).toArray)).run P w = .ok (l == m) w := by
    unfold Op.equal
    rw [show Op.maxDepth = 9998 + 1 + 1 from rfl]
    generalize 9998 = q
    rw [run_equalIn_array w (q + 1) _ _ hT hi, hce, List.range_eq_range']
    have hv := eqVs_ints (P := P) (k := k) he l m (by omega)
    rw [hl] at hv
    exact run_eqItems_v q e _ _ n 0 _ _ _ w rfl rfl hv
  have hgu := eqGuard_agg (P := P) w (op := .eql) (x := x) (y := y) (a := (l.map (Value.int k)).toArray) (b := (m.map (Value.int k)).toArray) hg
  have hb : binOp .eql t (.agg (l.map (Value.int k)).toArray) (.agg (m.map (Value.int k)).toArray) = (do pure (.bool (← Op.equal t (.agg (l.map (Value.int k)).toArray) (.agg (m.map (Value.int k)).toArray)))) := rfl
  simp only [execOp, h1, h2, hb, Sem.run_bind, hgu, Result.andThen_ok, he2]
  simp

def vals : List AV → Option (List Value)
  | [] => some []
  | .v x :: cs => (vals cs).map (x :: ·)
  | _ => none
theorem vals_Rs {g : Gh} {V : Loc → Value} {w : World} : ∀ {cs : List AV} {vs xs : List Value} {o : List Nat}, vals cs = some vs → Rs g V w cs xs o → xs = vs
  | [], vs, xs, o, h, hr => by simp only [vals, Option.some.injEq] at h; simp only [Rs] at hr; rw [hr.1, h]
  | c :: cs, vs, xs, o, h, hr => by
    cases c <;> simp only [vals, Option.map_eq_some_iff, reduceCtorEq] at h
    obtain ⟨vs', h1, rfl⟩ := h
    simp only [Rs, R] at hr
    obtain ⟨x, xs', o1, o2, rfl, rfl, ⟨rfl, _⟩, h4⟩ := hr
    rw [vals_Rs h1 h4]

/-- '==' and '!=' of two structs of plain cells. -/
theorem op_eq_st (N : List Ent) (d : Nat) {t t' : TypeId} {x y : Operand} {cs ds : List AV} (xs ys : List Value) (b r : Bool) (neg : Bool) (hT : P.underlying t = some (.struct (P.fieldsOf t))) (hp : P.stoodInHeld t = false) (hg : P.eqGuardType P.depth t = false)
    (hn : (P.fieldsOf t).toList.all (fun f => f.name != "_") = true) (ho : (P.fieldsOf t).toList.map (·.offset) = List.range' 0 (P.fieldsOf t).toList.length)
    (hx : rd N x = .agg cs) (hy : rd N y = .agg ds) (hc : vals cs = some xs) (hd : vals ds = some ys) (hv : eqVs P ((P.fieldsOf t).toList.map (·.type)) xs ys = some b) (hr : (if neg then !b else b) = r) :
    LOp P ⟨some d, .binOp (if neg then .neq else .eql) t x y t', ty, pos, aft, gd⟩ N [] [(d, .v (.bool r))] [.slot d] := by
  refine LOp.v rfl fun g V oN ac w hpre => ?_
  obtain ⟨o1, _, h1⟩ := rd_R hpre.val hpre.esN x
  obtain ⟨o2, _, h2⟩ := rd_R hpre.val hpre.esN y
  rw [hx] at h1; rw [hy] at h2
  simp only [R] at h1 h2
  obtain ⟨xs', e1, h1⟩ := h1
  obtain ⟨ys', e2, h2⟩ := h2
  have := vals_Rs hc h1; subst this
  have := vals_Rs hd h2; subst this
  have he2 : (Op.equal t (.agg xs'.toArray) (.agg ys'.toArray)).run P w = .ok b w := by
    unfold Op.equal
    rw [show Op.maxDepth = 9998 + 1 + 1 from rfl]
    generalize 9998 = q
    rw [run_equalIn_struct w (q + 1) t _ _ hT hp]
    exact run_eqFields_v q _ _ _ 0 _ _ b w (fun f hf => by simpa using List.all_eq_true.1 hn f hf) ho (by simp) (by simp) hv
  subst hr
  cases neg
  · have hgu := eqGuard_agg (P := P) w (op := .eql) (x := x) (y := y) (a := xs'.toArray) (b := ys'.toArray) hg
    have hb : binOp .eql t (.agg xs'.toArray) (.agg ys'.toArray) = (do pure (.bool (← Op.equal t (.agg xs'.toArray) (.agg ys'.toArray)))) := rfl
    simp only [execOp, e1, e2, hb, Sem.run_bind, hgu, Result.andThen_ok, he2, Bool.false_eq_true, if_false]
    simp
  · have hgu := eqGuard_agg (P := P) w (op := .neq) (x := x) (y := y) (a := xs'.toArray) (b := ys'.toArray) hg
    have hb : binOp .neq t (.agg xs'.toArray) (.agg ys'.toArray) = (do pure (.bool (!(← Op.equal t (.agg xs'.toArray) (.agg ys'.toArray))))) := rfl
    simp only [execOp, e1, e2, hb, Sem.run_bind, hgu, Result.andThen_ok, he2, if_true]
    simp
end
end Go.Abs
