/-
  Operations on the call's own variables, on fields, on elements.
-/
import Derived.Test.YtbioodcjmceefaaA5
import Derived.Laws.CopyOwn
import Derived.Laws.Cells
namespace Go.Abs

theorem add_flat (b o i : Nat) : (⟨b, o, none⟩ : Addr).add i = ⟨b, o + i, none⟩ := by
  unfold Addr.add
  by_cases hi : i = 0 <;> simp [hi]
theorem add_add (a : Addr) (i j : Nat) : (a.add i).add j = a.add (i + j) := by
  unfold Addr.add
  by_cases hi : i = 0 <;> by_cases hj : j = 0 <;> simp [hi, hj, Nat.add_assoc]
theorem add_block (a : Addr) (n : Nat) : (a.add n).block = a.block := by unfold Addr.add; split <;> rfl

def isAggD : TypeDesc → Bool
  | .struct _ => true
  | .array _ _ => true
  | _ => false

section
variable {P : Program} {w : World}
theorem run_isAgg {T : TypeId} {d : TypeDesc} (hu : P.underlying T = some d) : (isAgg T).run P w = .ok (isAggD d) w := by
  unfold isAgg
  rw [Sem.run_bind, run_underlying hu w]
  cases d <;> simp [isAggD]
theorem run_sizeOf' {T : TypeId} {s : Nat} (h : (P.info? T).map (·.size) = some s) : (sizeOf T).run P w = .ok s w := by
  cases hq : P.info? T with
  | none => simp [hq] at h
  | some i => simp [hq] at h; simp [sizeOf, typeInfo, hq, h]
theorem run_zero {T : TypeId} {z : Value} (h : (P.info? T).bind (·.zero) = some z) : (zeroValue T).run P w = .ok z w := by
  cases hq : P.info? T with
  | none => simp [hq] at h
  | some i => simp [hq] at h; simp [zeroValue, typeInfo, hq, h]
theorem run_load1 {T : TypeId} {d : TypeDesc} (hu : P.underlying T = some d) (hd : isAggD d = false) {a : Addr} {v : Value} (hc : w.cell? a = some v) : (loadVar T a).run P w = .ok v w := by
  simp [loadVar, Sem.run_bind, run_isAgg hu, hd, load, Sem.run, hc]
theorem run_loadA {T : TypeId} {d : TypeDesc} {s : Nat} (hu : P.underlying T = some d) (hd : isAggD d = true) (hs : (P.info? T).map (·.size) = some s) {a : Addr} {xs : List Value} (hl : xs.length = s)
    (hc : ∀ j v, xs[j]? = some v → w.cell? (a.add j) = some v) : (loadVar T a).run P w = .ok (.agg xs.toArray) w := by
  subst hl
  have := run_loadCells_list (P := P) w a xs hc
  simp [loadVar, Sem.run_bind, run_isAgg hu, hd, run_sizeOf' hs, this]

theorem run_storeRow {T : TypeId} {s : Nat} (hs : (P.info? T).map (·.size) = some s) {b off : Nat} {E : TypeId} {cur : List Value} {v : Value} (hb : w.heap[b]? = some (.cells cur.toArray E (0, 0)))
    (hv : v.cells.size = s) (h1 : ∀ u ∈ v.cells.toList, u.oneCell' = true) (hfit : off + s ≤ cur.length) :
    (storeVar T ⟨b, off, none⟩ v).run P w = .ok () (w.setRow b (cur.take off ++ v.cells.toList ++ cur.drop (off + s)).toArray) := by
  subst hv
  have := run_storeCells_at P b off E v.cells.toList 0 cur.toArray w hb (by simpa using hfit) h1
  simp only [Nat.add_zero, Array.length_toList] at this
  simp [storeVar, Sem.run_bind, run_sizeOf' hs, this]
end

section
variable {P : Program} {ty : TypeId} {pos : String} {aft : Array Edge} {gd : Option (Nat × Bool)}

theorem Rs_vals {g : Gh} {V : Loc → Value} {w : World} : ∀ (xs : List Value), Rs g V w (xs.map .v) xs []
  | [] => by simp [Rs]
  | x :: xs => by simp only [List.map_cons, Rs]; exact ⟨x, xs, [], [], rfl, rfl, by simp [R], Rs_vals xs⟩

/-- A new variable of its type's zero. -/
theorem op_alloc (d : Nat) {T : TypeId} (z : Value) (hz : (P.info? T).bind (·.zero) = some z) :
    LOp P ⟨some d, .alloc T, ty, pos, aft, gd⟩ [] [] [(d, .box T (z.cells.toList.map .v))] [.slot d] := by
  refine LOp.fresh rfl ?_ fun g V oN a w hp => ?_
  · simp only [clr]; induction z.cells.toList with
    | nil => rfl
    | cons x xs ih => simp [clrs, clr, ih]
  · have hr : (execOp a.eval ⟨some d, .alloc T, ty, pos, aft, gd⟩).run P w = .ok (.value (.pointer (some ⟨w.heap.size, 0, none⟩))) (w.alloc (.cells z.cells T)) := by
      simp [execOp, Instr.alloc, Sem.run_bind, run_zero hz, newVar, newRow, newObj]
      rfl
    refine (Yl.val hr).mono ?_
    rintro x w' ⟨rfl, rfl⟩
    refine ⟨Chg.alloc _ _ _, g, [w.heap.size], g.le_refl, fun b hb => .inl hb, ?_, by simp, ?_⟩
    · simp only [R]
      exact ⟨w.heap.size, z.cells.toList, [], rfl, rfl, by simpa using heap_alloc_new w (.cells z.cells T), Rs_vals _⟩
    · intro b hb
      simp at hb; subst hb
      exact ⟨Nat.le_refl _, by simp, fun hi => Nat.lt_irrefl _ (hp.imm _ (.inl hi))⟩

def vcells : AV → List AV
  | .agg cs => cs
  | av => [av]
def cellOk (NT : List Ent) : AV → Bool
  | .v y => y.oneCell'
  | .fl .. => true
  | .fr .. => true
  | .box .. => true
  | .ptr .. => true
  | .eref .. => true
  | .same l => match locv NT l with | .fl .. => true | .fr .. => true | _ => false
  | _ => false
def cellsOk (NT : List Ent) : AV → Bool
  | .agg cs => cs.all (cellOk NT)
  | av => cellOk NT av

section
variable {g : Gh} {V : Loc → Value} {w : World} {NT : List Ent} {oNT : List Nat}
theorem cell_one (hes : Es g V w NT oNT) {c : AV} {x : Value} {o : List Nat} (hc : cellOk NT c = true) (h : R g V w c x o) : x.oneCell' = true := by
  cases c with
  | v y => simp only [R] at h; simp only [cellOk] at hc; rw [h.1]; exact hc
  | fl m z xs => simp only [R] at h; obtain ⟨a, n, c, ⟨rfl, _⟩, _⟩ := h; rfl
  | box T cs => simp only [R] at h; obtain ⟨b, xs, os, rfl, _⟩ := h; rfl
  | ptr t i => simp only [R] at h; obtain ⟨b, _, rfl, _⟩ := h; rfl
  | eref l k => simp only [R] at h; obtain ⟨a, n, c, _, rfl, _⟩ := h; rfl
  | same l =>
    simp only [R] at h
    simp only [cellOk] at hc
    obtain ⟨o', _, hr⟩ := locv_R hes l
    rw [h.1]
    cases hl : locv NT l <;> simp [hl] at hc <;> rw [hl] at hr <;> simp only [R] at hr
    · obtain ⟨a, n, c, ⟨he, _⟩, _⟩ := hr
      rw [he]; rfl
    · obtain ⟨vs, a, n, c, ⟨he, _⟩, _⟩ := hr
      rw [he]; rfl
  | any => simp [cellOk] at hc
  | agg cs => simp [cellOk] at hc
  | tup cs => simp [cellOk] at hc
  | arr T vs => simp [cellOk] at hc
  | glob gl => simp [cellOk] at hc
  | obox p T cs => simp [cellOk] at hc
  | clo f ts => simp [cellOk] at hc
  | cut l k => simp [cellOk] at hc
  | fr m s z xs => simp only [R] at h; obtain ⟨vs, a, n, c, ⟨rfl, _⟩, _⟩ := h; rfl
theorem cells_one (hes : Es g V w NT oNT) : ∀ {cs : List AV} {xs : List Value} {o : List Nat}, (∀ c ∈ cs, cellOk NT c = true) → Rs g V w cs xs o → ∀ u ∈ xs, u.oneCell' = true
  | [], xs, o, _, h, u, hu => by simp only [Rs] at h; rw [h.1] at hu; cases hu
  | c :: cs, xs, o, hc, h, u, hu => by
    simp only [Rs] at h
    obtain ⟨x, xs', o1, o2, rfl, rfl, h1, h2⟩ := h
    rcases List.mem_cons.1 hu with rfl | hu
    · exact cell_one hes (hc c (by simp)) h1
    · exact cells_one hes (fun c' hc' => hc c' (by simp [hc'])) h2 u hu
/-- The cells of a value. -/
theorem vcells_R (hes : Es g V w NT oNT) {av : AV} {x : Value} {o : List Nat} (hok : cellsOk NT av = true) (h : R g V w av x o) :
    Rs g V w (vcells av) x.cells.toList o ∧ ∀ u ∈ x.cells.toList, u.oneCell' = true := by
  have single : ∀ c : AV, cellOk NT c = true → R g V w c x o → Rs g V w [c] x.cells.toList o ∧ ∀ u ∈ x.cells.toList, u.oneCell' = true := by
    intro c hc hr
    have h1 := cell_one hes hc hr
    have : x.cells = #[x] := by cases x <;> first | rfl | simp [Value.oneCell'] at h1
    rw [this]
    refine ⟨?_, by simp [h1]⟩
    simp only [Rs]
    exact ⟨x, [], o, [], rfl, by simp, hr, rfl, rfl⟩
  cases av with
  | agg cs =>
    simp only [R] at h
    obtain ⟨xs, rfl, h⟩ := h
    simp only [cellsOk, List.all_eq_true] at hok
    exact ⟨by simpa [vcells, Value.cells] using h, by simpa [Value.cells] using cells_one hes hok h⟩
  | _ => exact single _ hok h
end

/-- A new variable with a value: of what is copied. -/
theorem op_box (N : List Ent) (d : Nat) {T : TypeId} (x : Operand) (av : AV) (h : dupOp N x = av) (hok : cellsOk N av = true) (hcl : clrs [.slot d] (vcells av) = true) :
    LOp P ⟨some d, .box T x, ty, pos, aft, gd⟩ N [] [(d, .box T (vcells av))] [.slot d] := by
  refine LOp.fresh rfl (by simp only [clr]; exact hcl) fun g V oN a w hp => ?_
  have hr : (execOp a.eval ⟨some d, .box T x, ty, pos, aft, gd⟩).run P w = .ok (.value (.pointer (some ⟨w.heap.size, 0, none⟩))) (w.alloc (.cells (a.eval x).cells T)) := by
    simp [execOp, Instr.box, newVar, newRow, newObj]
    rfl
  refine (Yl.val hr).mono ?_
  rintro y w' ⟨rfl, rfl⟩
  have hR := dupOp_R hp.val hp.esN x
  rw [h] at hR
  obtain ⟨h1, _⟩ := vcells_R hp.esN hok hR
  refine ⟨Chg.alloc _ _ _, g, [w.heap.size], g.le_refl, fun b hb => .inl hb, ?_, by simp, ?_⟩
  · simp only [R]
    refine ⟨w.heap.size, (a.eval x).cells.toList, [], rfl, rfl, by simpa using heap_alloc_new w (.cells (a.eval x).cells T), ?_⟩
    refine Rs_stab (W := []) (fun _ h => h) (fun _ h => h) (fun _ _ => rfl) _ _ _ (clrs_nil _) ?_ h1
    intro b hb
    rcases hb with hb | hb
    · cases hb
    · exact heap_alloc_old w _ b (hp.imm b hb)
  · intro b hb
    simp at hb; subst hb
    exact ⟨Nat.le_refl _, by simp, fun hi => Nat.lt_irrefl _ (hp.imm _ (.inl hi))⟩

/-- The address of a field. -/
theorem op_fieldAddr (N : List Ent) (d : Nat) {s : TypeId} (x : Operand) (i : Nat) {fs : Array Field} {f : Field} (t off k2 : Nat) {k : Nat} (hT : P.underlying s = some (.struct fs)) (hf : fs[i]? = some f) (hk : (P.info? f.type).map (·.size) = some (k + 1))
    (hx : dupOp N x = .ptr t off) (hk2 : off + f.offset = k2) (ht : t ≠ d) : LOp P ⟨some d, .fieldAddr s x i, ty, pos, aft, gd⟩ N [] [(d, .ptr t k2)] [.slot d] := by
  subst hk2
  refine LOp.value rfl (by simp [clr, hit]; exact fun e => ht e.symm) rfl fun g V oN a w hp => ?_
  have hR := dupOp_R hp.val hp.esN x
  rw [hx] at hR
  simp only [R] at hR
  obtain ⟨b, h1, h2, _⟩ := hR
  refine ⟨.pointer (some ⟨b, off + f.offset, none⟩), ?_, by simp only [R]; exact ⟨b, h1, rfl, trivial⟩⟩
  simp [execOp, Instr.fieldAt, Sem.run_bind, run_underlying hT, hf, h2, Instr.sureAddr, fieldPlace, run_sizeOf' hk, add_flat]
theorem op_fieldAddr_e (N : List Ent) (d : Nat) {s : TypeId} (x : Operand) (i : Nat) {fs : Array Field} {f : Field} (l : Loc) (j k2 : Nat) {k : Nat} (hT : P.underlying s = some (.struct fs)) (hf : fs[i]? = some f) (hk : (P.info? f.type).map (·.size) = some (k + 1))
    (hx : dupOp N x = .eref l j) (hk2 : j + f.offset = k2) (hl : hit [.slot d] l = false) : LOp P ⟨some d, .fieldAddr s x i, ty, pos, aft, gd⟩ N [] [(d, .eref l k2)] [.slot d] := by
  subst hk2
  refine LOp.value rfl (by simp [clr, hl]) rfl fun g V oN a w hp => ?_
  have hR := dupOp_R hp.val hp.esN x
  rw [hx] at hR
  simp only [R] at hR
  obtain ⟨ad, n, c, h1, h2, _⟩ := hR
  refine ⟨.pointer (some (ad.add (j + f.offset))), ?_, by simp only [R]; exact ⟨ad, n, c, h1, rfl, trivial⟩⟩
  simp [execOp, Instr.fieldAt, Sem.run_bind, run_underlying hT, hf, h2, Instr.sureAddr, fieldPlace, run_sizeOf' hk, add_add]

/-- The address of an element of an array variable. -/
theorem op_indexAddr_a (N : List Ent) (d : Nat) {T e : TypeId} (x y : Operand) {kd : IntKind} (n t off i z : Nat) (hT : P.underlying T = some (.array n e)) (hz : (P.info? e).map (·.size) = some z)
    (hx : dupOp N x = .ptr t off) (hy : rd N y = .v (.int kd (i : Int))) (hi : i < n) (ht : t ≠ d) : LOp P ⟨some d, .indexAddr T x y, ty, pos, aft, gd⟩ N [] [(d, .ptr t (off + i * z))] [.slot d] := by
  refine LOp.value rfl (by simp [clr, hit]; exact fun e => ht e.symm) rfl fun g V oN a w hp => ?_
  have hR := dupOp_R hp.val hp.esN x
  rw [hx] at hR
  simp only [R] at hR
  obtain ⟨b, h1, h2, _⟩ := hR
  have h3 := rd_v hp.val hp.esN hy
  refine ⟨.pointer (some ⟨b, off + i * z, none⟩), ?_, by simp only [R]; exact ⟨b, h1, rfl, trivial⟩⟩
  simp [execOp, Instr.indexAt, Sem.run_bind, run_underlying hT, h2, h3, asIntOf, Instr.sureAddr, run_sizeOf' hz, hi, add_flat]

def locOf (N : List Ent) : Operand → Loc
  | .tmp t => match look N t with | .same l => l | _ => .slot t
  | _ => .slot 0

/-- The address of an element of a slice. -/
theorem op_indexAddr (N : List Ent) (d : Nat) {T e : TypeId} (x : Nat) (y : Operand) {kd : IntKind} {m : Md} {xs : List Value} (i z : Nat) (l : Loc) (hT : P.underlying T = some (.slice e)) (hz : (P.info? e).map (·.size) = some z)
    (hx : rd N (.tmp x) = .fl m z xs) (hl : locOf N (.tmp x) = l) (hy : rd N y = .v (.int kd (i : Int))) (hi : i * z + z ≤ xs.length) (h0 : 0 < z) (hd : hit [.slot d] l = false) :
    LOp P ⟨some d, .indexAddr T (.tmp x) y, ty, pos, aft, gd⟩ N [] [(d, .eref l (i * z))] [.slot d] := by
  refine LOp.value rfl (by simp [clr, hd]) rfl fun g V oN a w hp => ?_
  obtain ⟨o', _, hR⟩ := rd_R hp.val hp.esN (.tmp x)
  rw [hx] at hR
  simp only [R] at hR
  obtain ⟨ad, n, c, ⟨he, _⟩, hlen, _, hrd, _⟩ := hR
  have hne : xs ≠ [] := fun e => by subst e; simp at hi; omega
  obtain ⟨A, rfl, _⟩ := hrd hne
  have hin : i < n := by
    rw [hlen] at hi
    have : (i + 1) * z ≤ n * z := by rw [Nat.add_mul]; omega
    exact Nat.lt_of_succ_le (Nat.le_of_mul_le_mul_right this h0)
  have h3 := rd_v hp.val hp.esN hy
  have hV : V l = .slice (some A) n c := by
    rw [← hl, ← he]
    simp only [locOf]
    obtain ⟨o2, _, h2⟩ := opv_R hp.val hp.esN (.tmp x)
    simp only [opv] at h2
    cases hlk : look N x with
    | same l' => rw [hlk] at h2; simp only [R] at h2; exact h2.1.symm
    | _ => simp only [hp.val, Act.eval]
  refine ⟨.pointer (some (A.add (i * z))), ?_, by simp only [R]; exact ⟨A, n, c, hV, rfl, trivial⟩⟩
  simp [execOp, Instr.indexAt, Sem.run_bind, run_underlying hT, he, h3, asIntOf, run_sizeOf' hz, hin]

/-- What a copy of a variable's cell is known as. -/
def dupC (t off : Nat) : AV → AV
  | .v x => .v x
  | .fl (.own _) _ _ => .same (.cell t off)
  | .fl m z xs => .fl m z xs
  | .fr (.own _) _ _ _ => .same (.cell t off)
  | .fr m s z xs => .fr m s z xs
  | .same l => .same l
  | .ptr t i => .ptr t i
  | .eref l k => .eref l k
  | .cut l k => .cut l k
  | _ => .any
def dupCs (t off : Nat) : List AV → List AV
  | [] => []
  | c :: cs => dupC t off c :: dupCs t (off + 1) cs

section
variable {g : Gh} {V : Loc → Value} {w : World}
theorem dupC_R {av : AV} {x : Value} {o : List Nat} {t off : Nat} (h : R g V w av x o) (hx : V (.cell t off) = x) : R g V w (dupC t off av) x [] := by
  cases av with
  | fl m z xs =>
    cases m with
    | own T => simp [dupC, R, hx]
    | ro => exact dupCell_R (av := .fl .ro z xs) h
    | shr => exact dupCell_R (av := .fl .shr z xs) h
  | v y => exact dupCell_R (av := .v y) h
  | same l => exact dupCell_R (av := .same l) h
  | ptr t i => exact dupCell_R (av := .ptr t i) h
  | eref l k => exact dupCell_R (av := .eref l k) h
  | cut l k => exact dupCell_R (av := .cut l k) h
  | any => simp [R, dupC]
  | agg cs => simp [R, dupC]
  | tup cs => simp [R, dupC]
  | box T cs => simp [R, dupC]
  | arr T vs => simp [R, dupC]
  | glob gl => simp [R, dupC]
  | obox p T cs => simp [R, dupC]
  | clo f ts => simp [R, dupC]
  | fr m s z xs =>
    cases m with
    | own T => simp [dupC, R, hx]
    | ro => exact dupCell_R (av := .fr .ro s z xs) h
    | shr => exact dupCell_R (av := .fr .shr s z xs) h
theorem dupCs_R : ∀ {cs : List AV} {xs : List Value} {o : List Nat} {t off : Nat}, Rs g V w cs xs o → (∀ i x, xs[i]? = some x → V (.cell t (off + i)) = x) → Rs g V w (dupCs t off cs) xs []
  | [], xs, o, t, off, h, _ => by simp only [Rs, dupCs] at *; exact ⟨h.1, trivial⟩
  | c :: cs, xs, o, t, off, h, hv => by
    simp only [Rs, dupCs] at *
    obtain ⟨x, xs', o1, o2, rfl, rfl, h1, h2⟩ := h
    refine ⟨x, xs', [], [], rfl, rfl, dupC_R h1 (by simpa using hv 0 x rfl), dupCs_R h2 fun i y hy => ?_⟩
    have := hv (i + 1) y (by simpa using hy)
    rwa [show off + 1 + i = off + (i + 1) by omega]
theorem Rs_seg : ∀ {cs : List AV} {xs : List Value} {o : List Nat} (k n : Nat), Rs g V w cs xs o → ∃ o', (∀ b ∈ o', b ∈ o) ∧ Rs g V w ((cs.drop k).take n) ((xs.drop k).take n) o'
  | [], xs, o, k, n, h => by simp only [Rs] at h; obtain ⟨rfl, rfl⟩ := h; exact ⟨[], by simp, by simp [Rs]⟩
  | c :: cs, xs, o, 0, 0, h => ⟨[], by simp, by simp [Rs]⟩
  | c :: cs, xs, o, 0, n + 1, h => by
    simp only [Rs] at h
    obtain ⟨x, xs', o1, o2, rfl, rfl, h1, h2⟩ := h
    obtain ⟨o', hs, h3⟩ := Rs_seg 0 n h2
    refine ⟨o1 ++ o', fun b hb => ?_, ?_⟩
    · simp at hb ⊢; exact hb.imp id (hs b)
    · simp only [List.drop_zero, List.take_succ_cons, Rs] at h3 ⊢
      exact ⟨x, _, o1, o', rfl, rfl, h1, h3⟩
  | c :: cs, xs, o, k + 1, n, h => by
    simp only [Rs] at h
    obtain ⟨x, xs', o1, o2, rfl, rfl, h1, h2⟩ := h
    obtain ⟨o', hs, h3⟩ := Rs_seg k n h2
    exact ⟨o', fun b hb => by simp [hs b hb], by simpa using h3⟩

/-- A variable's block, its cells, their names. -/
theorem box_look {N : List Ent} {oN : List Nat} (h : Es g V w N oN) {t : Nat} {T : TypeId} {cs : List AV} (hl : look N t = .box T cs) :
    ∃ (b : Nat) (xs : List Value) (os : List Nat), V (.slot t) = .pointer (some ⟨b, 0, none⟩) ∧ w.heap[b]? = some (.cells xs.toArray T (0, 0)) ∧ Rs g V w cs xs os ∧ (∀ i x, xs[i]? = some x → V (.cell t i) = x) ∧ (∀ c ∈ b :: os, c ∈ oN) := by
  obtain ⟨o', hs, hr, ht⟩ := look_ER h t
  dsimp only at hr ht
  rw [hl] at hr ht
  simp only [R] at hr
  obtain ⟨b, xs, os, hx, rfl, hh, hrs⟩ := hr
  refine ⟨b, xs, os, hx, hh, hrs, fun i x hi => ?_, hs⟩
  have hlen := Rs_length hrs
  have hlt := (List.getElem?_eq_some_iff.1 hi).1
  have hc := ht b hx i (by omega)
  rw [cell_of_row w b i _ T (0, 0) hh] at hc
  simp only [List.getElem?_toArray, hi, Option.some.injEq] at hc
  exact hc.symm
end

/-- A load of one cell of a variable. -/
theorem op_load (N : List Ent) (d : Nat) {T : TypeId} {td : TypeDesc} (x : Operand) {T' : TypeId} {cs : List AV} (t off : Nat) (av : AV) (hT : P.underlying T = some td) (ha : isAggD td = false)
    (hx : dupOp N x = .ptr t off) (hl : look N t = .box T' cs) (ho : off < cs.length) (hav : dupC t off (cs.getD off .any) = av) (hcl : clr [.slot d] av = true) (hb : noBox av = true) :
    LOp P ⟨some d, .load T x, ty, pos, aft, gd⟩ N [] [(d, av)] [.slot d] := by
  refine LOp.value rfl hcl hb fun g V oN a w hp => ?_
  have hR := dupOp_R hp.val hp.esN x
  rw [hx] at hR
  simp only [R] at hR
  obtain ⟨b, h1, h2, _⟩ := hR
  obtain ⟨b', xs, os, h3, hh, hrs, hnm, _⟩ := box_look hp.esN hl
  rw [h1] at h3; cases h3
  have hlen := Rs_length hrs
  have hlt : off < xs.length := by omega
  obtain ⟨o2, _, h4⟩ := Rs_get off hrs ho
  have hget : xs[off]? = some (xs.getD off undef) := by simp [hlt]
  refine ⟨xs.getD off undef, ?_, ?_⟩
  · have hc : w.cell? ⟨b, off, none⟩ = some (xs.getD off undef) := by rw [cell_of_row w b off _ T' (0, 0) hh]; simpa using hget
    simp [execOp, Instr.loadAt, h2, Instr.sureAddr, run_load1 hT ha hc]
  · rw [← hav]; exact dupC_R h4 (hnm off _ hget)

/-- A load of several cells of a variable. -/
theorem op_loadA (N : List Ent) (d : Nat) {T : TypeId} {td : TypeDesc} (x : Operand) {T' : TypeId} {cs : List AV} (t off s : Nat) (cs' : List AV) (hT : P.underlying T = some td) (ha : isAggD td = true) (hs : (P.info? T).map (·.size) = some s)
    (hx : dupOp N x = .ptr t off) (hl : look N t = .box T' cs) (ho : off + s ≤ cs.length) (hav : dupCs t off ((cs.drop off).take s) = cs') (hcl : clrs [.slot d] cs' = true) :
    LOp P ⟨some d, .load T x, ty, pos, aft, gd⟩ N [] [(d, .agg cs')] [.slot d] := by
  refine LOp.value rfl (by simp only [clr]; exact hcl) rfl fun g V oN a w hp => ?_
  have hR := dupOp_R hp.val hp.esN x
  rw [hx] at hR
  simp only [R] at hR
  obtain ⟨b, h1, h2, _⟩ := hR
  obtain ⟨b', xs, os, h3, hh, hrs, hnm, _⟩ := box_look hp.esN hl
  rw [h1] at h3; cases h3
  have hlen := Rs_length hrs
  obtain ⟨o2, _, h4⟩ := Rs_seg off s hrs
  refine ⟨.agg ((xs.drop off).take s).toArray, ?_, ?_⟩
  · have hload := run_loadA (P := P) (w := w) (a := ⟨b, off, none⟩) (xs := (xs.drop off).take s) hT ha hs (by simp; omega) (fun j v hj => by
      rw [add_flat, cell_of_row w b _ _ T' (0, 0) hh]
      simp only [List.getElem?_take, List.getElem?_drop] at hj
      split at hj
      · simpa using hj
      · cases hj)
    simp [execOp, Instr.loadAt, h2, Instr.sureAddr, hload]
  · simp only [R]
    refine ⟨_, rfl, ?_⟩
    rw [← hav]
    refine dupCs_R h4 fun i y hy => ?_
    simp only [List.getElem?_take, List.getElem?_drop] at hy
    split at hy
    · exact hnm _ _ hy
    · cases hy

/-- A load of an element of a slice. -/
theorem op_load_e (N : List Ent) (d : Nat) {T : TypeId} {td : TypeDesc} (x : Operand) {m : Md} {z : Nat} {xs : List Value} (l : Loc) (k : Nat) (v : Value) (hT : P.underlying T = some td) (ha : isAggD td = false)
    (hx : dupOp N x = .eref l k) (hl : locv N l = .fl m z xs) (hv : xs[k]? = some v) :
    LOp P ⟨some d, .load T x, ty, pos, aft, gd⟩ N [] [(d, .v v)] [.slot d] := by
  refine LOp.v rfl fun g V oN a w hp => ?_
  have hR := dupOp_R hp.val hp.esN x
  rw [hx] at hR
  simp only [R] at hR
  obtain ⟨ad, n, c, h1, h2, _⟩ := hR
  obtain ⟨o', _, h3⟩ := locv_R hp.esN l
  rw [hl] at h3
  simp only [R] at h3
  obtain ⟨A, n', c', ⟨h4, _⟩, _, _, hrd, _⟩ := h3
  rw [h1] at h4; cases h4
  obtain ⟨ad', e, hc⟩ := hrd (fun e => by subst e; simp at hv)
  cases e
  simp [execOp, Instr.loadAt, h2, Instr.sureAddr, run_load1 hT ha (hc k v hv)]
theorem op_load_eA (N : List Ent) (d : Nat) {T : TypeId} {td : TypeDesc} (x : Operand) {m : Md} {z : Nat} {xs : List Value} (l : Loc) (k s : Nat) (vs : List Value) (hT : P.underlying T = some td) (ha : isAggD td = true) (hs : (P.info? T).map (·.size) = some s)
    (hx : dupOp N x = .eref l k) (hl : locv N l = .fl m z xs) (hv : (xs.drop k).take s = vs) (hlen : vs.length = s) (h0 : 0 < s) :
    LOp P ⟨some d, .load T x, ty, pos, aft, gd⟩ N [] [(d, .agg (vs.map .v))] [.slot d] := by
  refine LOp.value rfl ?_ rfl fun g V oN a w hp => ?_
  · simp only [clr]; clear hv hlen; induction vs with
    | nil => rfl
    | cons x xs ih => simp [clrs, clr, ih]
  have hR := dupOp_R hp.val hp.esN x
  rw [hx] at hR
  simp only [R] at hR
  obtain ⟨ad, n, c, h1, h2, _⟩ := hR
  obtain ⟨o', _, h3⟩ := locv_R hp.esN l
  rw [hl] at h3
  simp only [R] at h3
  obtain ⟨A, n', c', ⟨h4, _⟩, _, _, hrd, _⟩ := h3
  rw [h1] at h4; cases h4
  obtain ⟨ad', e, hc⟩ := hrd (fun e => by subst e; simp at hv; subst hv; simp at hlen; omega)
  cases e
  refine ⟨.agg vs.toArray, ?_, by simp only [R]; exact ⟨vs, rfl, Rs_vals vs⟩⟩
  have hload := run_loadA (P := P) (w := w) (a := ad.add k) (xs := vs) hT ha hs hlen (fun j v hj => by
    rw [add_add]
    refine hc (k + j) v ?_
    rw [← hv] at hj
    simp only [List.getElem?_take, List.getElem?_drop] at hj
    split at hj
    · exact hj
    · cases hj)
  simp [execOp, Instr.loadAt, h2, Instr.sureAddr, hload]
end
end Go.Abs
