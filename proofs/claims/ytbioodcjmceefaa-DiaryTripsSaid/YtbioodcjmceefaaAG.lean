/-
  The words in which a program is told in Lean (lists, partial where Go panics), and the rules of operations in these words.
-/
import Derived.Test.YtbioodcjmceefaaAF
namespace Go.Abs

def appO {A : Type} (by_ : Nat) (l m : List A) : Option (List A) := if (l.length + m.length) * by_ ≤ 140737488355328 ∧ l.length + m.length ≤ 140737488355328 then some (l ++ m) else none
def mkO {A : Type} (by_ : Nat) (n : Int) (z : A) : Option (List A) := if 0 ≤ n ∧ by_ * n.toNat ≤ 140737488355328 then some (List.replicate n.toNat z) else none
def copyL {A : Type} (l m : List A) : List A := m.take (min m.length l.length) ++ l.drop (min m.length l.length)
def copyN {A : Type} (l m : List A) : Int := ((min m.length l.length : Nat) : Int)
def sliO {A : Type} (l : List A) (lo hi : Int) : Option (List A) := if 0 ≤ lo ∧ lo ≤ hi ∧ hi ≤ (l.length : Int) then some ((l.drop lo.toNat).take (hi.toNat - lo.toNat)) else none
def subO (s : ByteArray) (lo hi : Int) : Option ByteArray := if 0 ≤ lo ∧ lo ≤ hi ∧ hi ≤ (s.size : Int) then some (s.extract lo.toNat hi.toNat) else none
def catO (s t : ByteArray) : Option ByteArray := if s.size + t.size ≤ 9223372036854775807 then some (s ++ t) else none
def chrO (s : ByteArray) (i : Int) : Option Int := if 0 ≤ i then (s.data.toList[i.toNat]?).map fun b => (b.toNat : Int) else none
def bstr (l : List Int) : ByteArray := ⟨(l.map fun n => UInt8.ofNat n.toNat).toArray⟩

theorem cat_ok {s t x : ByteArray} (h : catO s t = some x) : aBin .add (.string s) (.string t) = some (.string x) := by
  unfold catO at h
  split at h
  · rename_i hb; cases h; simp [aBin, hb]
  · cases h

theorem app_eq {A : Type} {b : Nat} {l m q : List A} (h : appO b l m = some q) : l ++ m = q := by
  unfold appO at h
  split at h
  · exact Option.some.inj h
  · cases h
theorem app_nil_eq {A : Type} {b : Nat} {m q : List A} (h : appO b [] m = some q) : m = q := by simpa using app_eq h
theorem flat_app {A : Type} {enc : A → List Value} {l m q : List A} (h : l ++ m = q) : (l.map enc).flatten ++ (m.map enc).flatten = (q.map enc).flatten := by subst h; simp
theorem agg_v {g : Gh} {V : Loc → Value} {w : World} {N : List Ent} {o : List Nat} {a : Act} {ys : List Value} (hv : ∀ t, V (.slot t) = a.tmps.getD t undef) (h : Es g V w N o) {x : Operand} (hx : rd N x = .agg (ys.map .v)) : a.eval x = .agg ys.toArray := by
  obtain ⟨o', _, hr⟩ := rd_R hv h x
  rw [hx] at hr
  simp only [R] at hr
  obtain ⟨xs, e, hr⟩ := hr
  have : ∀ (ys xs : List Value) (o : List Nat), Rs g V w (ys.map .v) xs o → xs = ys := by
    intro ys
    induction ys with
    | nil => intro xs o h; simp only [List.map_nil, Rs] at h; exact h.1
    | cons y ys ih =>
      intro xs o h
      simp only [List.map_cons, Rs, R] at h
      obtain ⟨x, xs', o1, o2, rfl, rfl, ⟨rfl, _⟩, h2⟩ := h
      rw [ih _ _ h2]
  rw [e, this _ _ _ hr]

section
variable {A : Type} {f : A → Value}
theorem map_len (l : List A) : (l.map f).length = l.length * 1 := by simp
theorem map_lt {l : List A} {i : Nat} (h : i < l.length) : i * 1 + 1 ≤ (l.map f).length := by simp; omega
theorem map_get {l : List A} {i : Nat} {x : A} (h : getO l i = some x) : (l.map f)[i * 1]? = some (f x) := by
  unfold getO at h; simp [h]
theorem map_set {l : List A} {i : Nat} (x : A) (h : i < l.length) : (l.map f).take (i * 1) ++ ([f x] ++ (l.map f).drop (i * 1 + 1)) = (l.set i x).map f := by
  rw [Nat.mul_one]
  apply List.ext_getElem?
  intro j
  have := splice_get (l.map f) [f x] i j (by simp; omega)
  simp only [List.length_cons, List.length_nil, Nat.zero_add] at this
  rw [this]
  simp only [List.getElem?_map, List.getElem?_set]
  by_cases h1 : j < i
  · rw [if_pos h1, if_neg (by omega)]
  · rw [if_neg h1]
    by_cases h2 : j < i + 1
    · have : j = i := by omega
      subst this
      simp [h]
    · rw [if_neg h2, if_neg (by omega)]
variable {z : Nat}
theorem flat_len {enc : A → List Value} (he : ∀ x, (enc x).length = z) (l : List A) : ((l.map enc).flatten).length = l.length * z := by
  induction l with
  | nil => simp
  | cons x l ih => simp [he, ih, Nat.add_mul]; omega
theorem flat_lt {enc : A → List Value} (he : ∀ x, (enc x).length = z) {l : List A} {i : Nat} (h : i < l.length) : i * z + z ≤ ((l.map enc).flatten).length := by
  rw [flat_len he]
  have : (i + 1) * z ≤ l.length * z := Nat.mul_le_mul_right _ h
  rw [Nat.add_mul] at this; omega
theorem flat_drop {enc : A → List Value} (he : ∀ x, (enc x).length = z) : ∀ (l : List A) (i : Nat), ((l.map enc).flatten).drop (i * z) = ((l.drop i).map enc).flatten
  | [], i => by simp
  | x :: l, 0 => by simp
  | x :: l, i + 1 => by
    simp only [List.map_cons, List.flatten_cons, List.drop_succ_cons]
    rw [← flat_drop he l i, Nat.add_mul, Nat.one_mul, Nat.add_comm, ← List.drop_drop, ← he x]
    simp
theorem flat_get {enc : A → List Value} (he : ∀ x, (enc x).length = z) {l : List A} {i : Nat} {x : A} (h : getO l i = some x) : (((l.map enc).flatten).drop (i * z)).take z = enc x := by
  rw [flat_drop he]
  unfold getO at h
  have hl := (List.getElem?_eq_some_iff.1 h)
  rw [List.drop_eq_getElem_cons hl.1, hl.2]
  simp [← he x]
theorem flat_cell {enc : A → List Value} (he : ∀ x, (enc x).length = z) {l : List A} {i j : Nat} {x : A} {v : Value} (h : getO l i = some x) (hv : (enc x)[j]? = some v) : ((l.map enc).flatten)[i * z + j]? = some v := by
  have h1 := flat_get he h
  have hj : j < z := by have := (List.getElem?_eq_some_iff.1 hv).1; rw [he] at this; exact this
  rw [← h1] at hv
  simp only [List.getElem?_take, List.getElem?_drop, hj, if_true] at hv
  exact hv
end

section
variable {P : Program} {ty : TypeId} {pos : String} {aft : Array Edge} {gd : Option (Nat × Bool)}

theorem op_ix (N : List Ent) (d : Nat) {T e : TypeId} (x : Nat) (y : Operand) {kd : IntKind} {m : Md} {xs : List Value} (n : Int) (i z : Nat) (l : Loc) (hT : P.underlying T = some (.slice e)) (hz : (P.info? e).map (·.size) = some z) (h0 : 0 < z)
    (hx : rd N (.tmp x) = .fl m z xs) (hl : locOf N (.tmp x) = l) (hy : rd N y = .v (.int kd n)) (hn : n = (i : Int)) (hi : i * z + z ≤ xs.length) (hd : hit [.slot d] l = false) :
    LOp P ⟨some d, .indexAddr T (.tmp x) y, ty, pos, aft, gd⟩ N [] [(d, .eref l (i * z))] [.slot d] :=
  op_indexAddr N d x y i z l hT hz hx hl (by rw [hy, hn]) hi h0 hd

theorem op_app_nil {A : Type} (N : List Ent) (d : Nat) {T e t' : TypeId} (x y : Operand) {z by_ : Nat} {my : Md} {ys zs : List Value} {l m q : List A} (hE : ElemT P T e z by_) (hx : rd N x = .v (.slice none 0 0)) (hy : rd N y = .fl my z ys) (hm : ys.length = m.length * z)
    (hq : appO by_ l m = some q) (hz : ys = zs) :
    LOp P ⟨some d, .call ⟨.builtin .append, #[x, y], #[T, T]⟩, t', pos, aft, gd⟩ N [] [(d, .fl (.own e) z zs)] [.slot d] := by
  subst hz
  unfold appO at hq
  split at hq
  · rename_i h
    exact op_append_nil N d x y m.length hE hx hy hm (Nat.le_trans (Nat.mul_le_mul_right _ (by omega)) h.1) (by simp only [maxLen]; omega)
  · cases hq
theorem op_app {A : Type} (N : List Ent) (d t : Nat) {T e t' : TypeId} (x y : Operand) {z by_ : Nat} {my : Md} {xs ys zs : List Value} {l m q : List A} (hE : ElemT P T e z by_) (hx : dupOp (N ++ [(t, .fl (.own e) z xs)]) x = .same (.slot t)) (hy : rd N y = .fl my z ys)
    (hn : xs.length = l.length * z) (hm : ys.length = m.length * z) (hq : appO by_ l m = some q) (hz : xs ++ ys = zs) :
    LOp P ⟨some d, .call ⟨.builtin .append, #[x, y], #[T, T]⟩, t', pos, aft, gd⟩ N [(t, .fl (.own e) z xs)] [(t, .any), (d, .fl (.own e) z zs)] [.slot d] := by
  subst hz
  unfold appO at hq
  split at hq
  · rename_i h
    exact op_append N d t x y l.length m.length hE hx hy hn hm h.1 (by simp only [maxLen]; omega)
  · cases hq
theorem op_app_cell {A : Type} (N : List Ent) (d t i : Nat) {T e t' T' : TypeId} (x y : Operand) {z by_ : Nat} {my : Md} {cs cs' : List AV} {xs ys zs : List Value} {l m q : List A} (hE : ElemT P T e z by_) (hx : dupOp N x = .same (.cell t i)) (hc : cs.getD i .any = .fl (.own e) z xs) (hic : i < cs.length)
    (hy : rd N y = .fl my z ys) (hn : xs.length = l.length * z) (hm : ys.length = m.length * z) (hq : appO by_ l m = some q) (hz : xs ++ ys = zs) (hdt : d ≠ t) (hcs : cs.set i .any = cs') (hcl : clrs [.slot d] cs' = true) :
    LOp P ⟨some d, .call ⟨.builtin .append, #[x, y], #[T, T]⟩, t', pos, aft, gd⟩ N [(t, .box T' cs)] [(t, .box T' cs'), (d, .fl (.own e) z zs)] [.slot d] := by
  subst hz hcs
  unfold appO at hq
  split at hq
  · rename_i h
    exact op_append_cell N d t i x y l.length m.length hE hx hc hic hy hn hm h.1 (by simp only [maxLen]; omega) hdt hcl
  · cases hq

theorem op_mk {A : Type} {f : A → Value} (N : List Ent) (d : Nat) {T e : TypeId} (x y : Operand) {kl kc : IntKind} {n : Int} {zv : A} {q : List A} {by_ : Nat} (hE : ElemT P T e 1 by_) (h0 : 0 < by_) (hz : (P.info? e).bind (·.zero) = some (f zv)) (h1 : (f zv).oneCell' = true)
    (hx : rd N x = .v (.int kl n)) (hy : rd N y = .v (.int kc n)) (hq : mkO by_ n zv = some q) :
    LOp P ⟨some d, .makeSlice T x y, ty, pos, aft, gd⟩ N [] [(d, .fl (.own e) 1 (q.map f))] [.slot d] := by
  obtain ⟨i, z', hT, hi, hz', hs, hzc, _, rfl⟩ := hE.ex
  unfold mkO at hq
  split at hq
  · rename_i h
    cases hq
    have hn : n = ((n.toNat : Nat) : Int) := by omega
    rw [hn] at hx hy
    have := op_makeSlice (P := P) (ty := ty) (pos := pos) (aft := aft) (gd := gd) N d x y n.toNat (f zv) hT hi (by simpa [hi] using hz) hs h1 hx hy h0 h.2
    simpa using this
  · cases hq

theorem op_cp {A : Type} {f : A → Value} (N : List Ent) (d t : Nat) {T T2 e t' : TypeId} (x y : Operand) {my : Md} (l m : List A) (hu : P.underlying T = some (.slice e)) (hz : (P.info? e).map (·.size) = some 1)
    (hx : dupOp (N ++ [(t, .fl (.own e) 1 (l.map f))]) x = .same (.slot t)) (hy : rd N y = .fl my 1 (m.map f)) (hdt : d ≠ t) :
    LOp P ⟨some d, .call ⟨.builtin .copy, #[x, y], #[T, T2]⟩, t', pos, aft, gd⟩ N [(t, .fl (.own e) 1 (l.map f))] [(t, .fl (.own e) 1 ((copyL l m).map f)), (d, .v (.int .i64 (copyN l m)))] [.slot d] := by
  have := op_copy (P := P) (pos := pos) (aft := aft) (gd := gd) (t' := t') (T2 := T2) N d t x y hu hz hx hy hdt
  simpa [copyL, copyN, List.map_take, List.map_drop] using this

theorem op_sl {A : Type} {f : A → Value} (N : List Ent) (d : Nat) {T e : TypeId} {x : Operand} {lo hi : Option Operand} {m : Md} (l : List A) (a b : Int) (q : List A) (hT : P.underlying T = some (.slice e)) (hz : (P.info? e).map (·.size) = some 1)
    (hx : rd N x = .fl m 1 (l.map f)) (hm : notOwn m = true)
    (hl : match lo with | some y => ∃ k, rd N y = .v (.int k a) | none => a = 0) (hh : match hi with | some y => ∃ k, rd N y = .v (.int k b) | none => b = (l.length : Int)) (hq : sliO l a b = some q) :
    LOp P ⟨some d, .slice T x lo hi none, ty, pos, aft, gd⟩ N [] [(d, .fl m 1 (q.map f))] [.slot d] := by
  unfold sliO at hq
  split at hq
  · rename_i h
    cases hq
    have ha : a = ((a.toNat : Nat) : Int) := by omega
    have hb : b = ((b.toNat : Nat) : Int) := by omega
    refine op_slice N d a.toNat b.toNat _ hT hz (by omega) hx hm ?_ ?_ (by omega) (by simp; omega) ?_
    · cases lo with
      | none => simp only at hl ⊢; omega
      | some y => obtain ⟨k, hk⟩ := hl; exact ⟨k, by rw [hk, ← ha]⟩
    · cases hi with
      | none => simp only at hh ⊢; simp; omega
      | some y => obtain ⟨k, hk⟩ := hh; exact ⟨k, by rw [hk, ← hb]⟩
    · simp [List.map_take, List.map_drop]
  · cases hq

theorem op_substr (N : List Ent) (d : Nat) {t : TypeId} {x : Operand} {lo hi : Option Operand} (s : ByteArray) (a b : Int) (q : ByteArray) (hT : P.underlying t = some .string) (hx : rd N x = .v (.string s))
    (hl : match lo with | some y => ∃ k, rd N y = .v (.int k a) | none => a = 0) (hh : match hi with | some y => ∃ k, rd N y = .v (.int k b) | none => b = (s.size : Int)) (hq : subO s a b = some q) :
    LOp P ⟨some d, .slice t x lo hi none, ty, pos, aft, gd⟩ N [] [(d, .v (.string q))] [.slot d] := by
  unfold subO at hq
  split at hq
  · rename_i h
    cases hq
    have ha : a = ((a.toNat : Nat) : Int) := by omega
    have hb : b = ((b.toNat : Nat) : Int) := by omega
    refine op_slice_str N d s a.toNat b.toNat hT hx ?_ ?_ (by omega) (by omega)
    · cases lo with
      | none => simp only at hl ⊢; omega
      | some y => obtain ⟨k, hk⟩ := hl; exact ⟨k, by rw [hk, ← ha]⟩
    · cases hi with
      | none => simp only at hh ⊢; omega
      | some y => obtain ⟨k, hk⟩ := hh; exact ⟨k, by rw [hk, ← hb]⟩
  · cases hq
theorem op_chr (N : List Ent) (d : Nat) {t : TypeId} {x y : Operand} {k : IntKind} (s : ByteArray) (i : Int) (q : Int) (hT : P.underlying t = some .string) (hx : rd N x = .v (.string s)) (hy : rd N y = .v (.int k i)) (hq : chrO s i = some q) :
    LOp P ⟨some d, .index t x y, ty, pos, aft, gd⟩ N [] [(d, .v (.int .u8 q))] [.slot d] := by
  unfold chrO at hq
  split at hq
  · rename_i h
    have hi : i = ((i.toNat : Nat) : Int) := by omega
    cases hb : s.data.toList[i.toNat]? with
    | none => rw [hb] at hq; cases hq
    | some b =>
      rw [hb] at hq
      simp only [Option.map_some, Option.some.injEq] at hq
      subst hq
      exact op_index_str N d s i.toNat b hT hx (by rw [hy, ← hi]) hb
  · cases hq

/-- A variable is read whole, and given up. -/
theorem op_loadA_take (N : List Ent) (d t : Nat) {T T' : TypeId} {td : TypeDesc} (x : Operand) {cs : List AV} (hT : P.underlying T = some td) (ha : isAggD td = true) (hs : (P.info? T).map (·.size) = some cs.length) (hx : dupOp (N ++ [(t, .box T' cs)]) x = .ptr t 0) (hcl : clrs [.slot d] cs = true) :
    LOp P ⟨some d, .load T x, ty, pos, aft, gd⟩ N [(t, .box T' cs)] [(d, .agg cs)] [.slot d] := by
  refine LOp.core fun g V oN oT a w hd hp => ?_
  have hT' := hp.esT
  simp only [Es] at hT'
  obtain ⟨ob, o2, rfl, ⟨hR, _⟩, rfl⟩ := hT'
  have hax := dupOp_R hp.val (Es_append.2 ⟨oN, _, rfl, hp.esN, hp.esT⟩) x
  rw [hx] at hax
  simp only [R] at hax hR
  obtain ⟨b, xs, os, h1, rfl, hh, hrs⟩ := hR
  obtain ⟨b2, h2, h3, _⟩ := hax
  rw [h1] at h2; cases h2
  have hload := run_loadA (P := P) (w := w) (a := ⟨b, 0, none⟩) (xs := xs) hT ha hs (Rs_length hrs) (fun j v hj => by rw [add_flat, cell_of_row w b _ _ T' (0, 0) hh]; simpa using hj)
  have hrun : (execOp a.eval ⟨some d, .load T x, ty, pos, aft, gd⟩).run P w = .ok (.value (.agg xs.toArray)) w := by simp [execOp, Instr.loadAt, h3, Instr.sureAddr, hload]
  refine (Yl.val hrun).mono ?_
  rintro y w' ⟨rfl, rfl⟩
  have hlt : d < g.n := hd d rfl
  refine ⟨g, setV V d _, os, g.le_refl, fun b hb => .inl hb, fun b hb => hp.imm b (.inl hb), Chg.refl _ _, fun l hl => setV_hit hl, fun u => setV_val hp.val hp.size hlt u, ?_, ?_, ?_⟩
  · refine ⟨os, [], by simp, ⟨?_, trivial⟩, rfl⟩
    show R g _ _ (.agg cs) (setV V d _ (.slot d)) os
    rw [setV_slot]
    simp only [R]
    exact ⟨xs, rfl, Rs_stab (W := [.slot d]) (fun _ h => h) (fun _ h => h) (fun l hl => setV_hit hl) _ _ _ hcl (fun _ _ => rfl) hrs⟩
  · have := (List.nodup_append.1 hp.nodup).2.1
    simp at this; exact this.2
  · intro c hc
    have := hp.own c (by simp [hc])
    exact ⟨.inl (by simp [hc]), this.1, this.2⟩
end
theorem litfill {o : Option (Array Value)} {a : Array Value} {l : List Value} (h : o = some a) (h2 : a.toList = l) : o = some l.toArray := by subst h; subst h2; rw [Array.toArray_toList]

theorem Rs_only {g : Gh} {V : Loc → Value} {w : World} : ∀ {cs : List AV} {xs : List Value} {o o1 : List Nat} (i : Nat), Rs g V w cs xs o → i < cs.length →
    R g V w (cs.getD i .any) (xs.getD i undef) o1 → Rs g V w ((List.replicate cs.length AV.any).set i (cs.getD i .any)) xs o1
  | [], _, _, _, i, _, hi, _ => by simp at hi
  | c :: cs, xs, o, o1, i, h, hi, h1 => by
    simp only [Rs] at h
    obtain ⟨x, xs', p1, p2, rfl, rfl, hc, hr⟩ := h
    have hany : ∀ {ds : List AV} {ys : List Value} {q : List Nat}, Rs g V w ds ys q → Rs g V w (List.replicate ds.length AV.any) ys [] := by
      intro ds
      induction ds with
      | nil => intro ys q h; simp only [Rs] at h; simp [Rs, h.1]
      | cons d ds ih =>
        intro ys q h
        simp only [Rs] at h
        obtain ⟨y, ys', q1, q2, rfl, rfl, _, hr⟩ := h
        simp only [List.length_cons, List.replicate_succ, Rs]
        exact ⟨y, ys', [], [], rfl, rfl, by simp [R], ih hr⟩
    cases i with
    | zero =>
      simp only [List.length_cons, List.replicate_succ, List.set_cons_zero, List.getD_cons_zero, Rs] at h1 ⊢
      exact ⟨x, xs', o1, [], rfl, by simp, h1, hany hr⟩
    | succ i =>
      simp only [List.length_cons, List.replicate_succ, List.set_cons_succ, List.getD_cons_succ, Rs] at h1 ⊢
      exact ⟨x, xs', [], o1, rfl, by simp, by simp [R], Rs_only i hr (by simpa using hi) h1⟩

/-- A part of a tuple, and the rest of it, held apart. -/
theorem LOp.split {P : Program} {o : Oper} {N T A B : List Ent} {W : List Loc} (t i : Nat) (cs c1 c2 : List AV) (h : LOp P o N T (A ++ (t, .tup cs) :: B) W) (hi : i < cs.length)
    (e1 : (List.replicate cs.length AV.any).set i (cs.getD i .any) = c1) (e2 : cs.set i .any = c2) : LOp P o N T (A ++ (t, .tup c1) :: (t, .tup c2) :: B) W := by
  intro g F a w K Q hd hs hc hk
  refine h g F a w K Q hd hs hc fun g' a' w' hle hs' => hk g' a' w' hle ?_
  have hp : (N ++ ((A ++ (t, AV.tup cs) :: B) ++ F)).Perm ((t, AV.tup cs) :: (N ++ ((A ++ B) ++ F))) := by
    simp only [List.append_assoc, List.cons_append]
    rw [← List.append_assoc N A, ← List.append_assoc N A]
    exact List.perm_middle
  have hq : ((t, AV.tup c1) :: (t, AV.tup c2) :: (N ++ ((A ++ B) ++ F))).Perm (N ++ ((A ++ (t, AV.tup c1) :: (t, AV.tup c2) :: B) ++ F)) := by
    simp only [List.append_assoc, List.cons_append]
    rw [← List.append_assoc N A, ← List.append_assoc N A]
    refine (List.Perm.trans ?_ List.perm_middle.symm)
    exact List.Perm.cons _ List.perm_middle.symm
  refine Sat.perm ?_ hq
  obtain ⟨V, ow, hst, hes⟩ := hs'.perm hp
  simp only [Es] at hes
  obtain ⟨o1, o2, rfl, ⟨hR, _⟩, hrest⟩ := hes
  simp only [R] at hR
  obtain ⟨xs, hx, hrs⟩ := hR
  obtain ⟨p1, p2, hpm, h1, h2⟩ := Rs_setAny i hrs hi
  subst e1 e2
  have hpp : (o1 ++ o2).Perm (p1 ++ (p2 ++ o2)) := by rw [← List.append_assoc]; exact hpm.append_right o2
  refine ⟨V, p1 ++ (p2 ++ o2), ⟨hst.val, hst.size, hst.defers, hpp.nodup_iff.1 hst.nodup, fun b hb => hst.own b (hpp.mem_iff.2 hb), hst.imm, hst.chg⟩, ?_⟩
  refine ⟨p1, p2 ++ o2, rfl, ⟨?_, trivial⟩, p2, o2, rfl, ⟨?_, trivial⟩, hrest⟩
  · simp only [R]; exact ⟨xs, hx, Rs_only i hrs hi h1⟩
  · simp only [R]; exact ⟨xs, hx, h2⟩

end Go.Abs
