/-
  Operations on numbers, truth values, texts.
-/
import Derived.Test.YtbioodcjmceefaaA4
import Derived.Laws.Entries
import Derived.IntWalk
namespace Go.Abs

def aBin (op : BinOp) (x y : Value) : Option Value :=
  match x, y with
  | .int k a, .int k' b =>
    match op with
    | .shl => if 0 ≤ b then some (.int k (k.wrap (a * 2 ^ min b.toNat k.bits))) else none
    | .shr => if 0 ≤ b then some (.int k (a.fdiv (2 ^ min b.toNat k.bits))) else none
    | op => if k = k' then
      match op with
      | .add => some (.int k (k.wrap (a + b)))
      | .sub => some (.int k (k.wrap (a - b)))
      | .mul => some (.int k (k.wrap (a * b)))
      | .quo => if b = 0 then none else some (.int k (k.wrap (a.tdiv b)))
      | .rem => if b = 0 then none else some (.int k (a.tmod b))
      | .and => some (.int k (bits .and k a b))
      | .or => some (.int k (bits .or k a b))
      | .xor => some (.int k (bits .xor k a b))
      | .andNot => some (.int k (bits .andNot k a b))
      | .eql => some (.bool (a == b))
      | .neq => some (.bool (a != b))
      | .lss => some (.bool (decide (a < b)))
      | .leq => some (.bool (decide (a ≤ b)))
      | .gtr => some (.bool (decide (b < a)))
      | .geq => some (.bool (decide (b ≤ a)))
      | _ => none
      else none
  | .string s, .string t =>
    match op with
    | .add => if s.size + t.size ≤ 9223372036854775807 then some (.string (s ++ t)) else none
    | .eql => some (.bool (s.toList == t.toList))
    | .neq => some (.bool !(s.toList == t.toList))
    | _ => none
  | _, _ => none

section
variable {P : Program} {ty : TypeId} {pos : String} {aft : Array Edge} {gd : Option (Nat × Bool)} {w : World}

theorem run_bin {op : BinOp} {t : TypeId} {x y : Operand} {a b r : Value} (h : aBin op a b = some r) : (do eqGuard op t x y a b; binOp op t a b).run P w = .ok r w := by
  unfold aBin at h
  split at h
  · rename_i k m k' m'
    have hg : eqGuard op t x y (.int k m) (.int k' m') = pure () := by
      unfold eqGuard; cases op <;> simp
    rw [hg]
    split at h
    · split at h
      · rename_i hb
        cases h
        simp [binOp, Op.shift, Int.not_lt.2 hb]
      · cases h
    · split at h
      · rename_i hb
        cases h
        simp [binOp, Op.shift, Int.not_lt.2 hb]
      · cases h
    · split at h
      · rename_i hk
        subst hk
        split at h <;> try (cases h; done)
        all_goals first
          | (cases h; simp [binOp, Op.intArith, Op.intCmp]; done)
          | (cases h; simp [binOp, intBits_and, intBits_or, intBits_xor, intBits_andNot]; done)
          | (split at h
             · cases h
             · rename_i hb; cases h; simp [binOp, Op.intDiv, hb])
      · cases h
  · rename_i s u
    have hg : eqGuard op t x y (.string s) (.string u) = pure () := by
      unfold eqGuard; cases op <;> simp
    rw [hg]
    split at h <;> try (cases h; done)
    · split at h
      · rename_i hb
        cases h
        have : ¬ ((s.size + u.size : Nat) : Int) > IntKind.i64.max := by
          have : IntKind.i64.max = 9223372036854775807 := by decide
          omega
        simp [binOp, Op.stringOp]
        simp at this
        omega
      · cases h
    · cases h; simp [binOp, Op.stringOp]
    · cases h; simp [binOp, Op.stringOp]
  · cases h

theorem LOp.v {o : Oper} {N : List Ent} {d : Nat} {r : Value} (ho : o.dst = some d)
    (h : ∀ (g : Gh) (V : Loc → Value) (oN : List Nat) (a : Act) (w : World), Pre g V N [] oN [] a w → (execOp a.eval o).run P w = .ok (.value r) w) : LOp P o N [] [(d, .v r)] [.slot d] :=
  LOp.value ho rfl rfl fun g V oN a w hp => ⟨r, h g V oN a w hp, by simp [R]⟩

theorem op_bin (N : List Ent) (d : Nat) {op : BinOp} {t t' : TypeId} {x y : Operand} (a b r : Value) (hx : rd N x = .v a) (hy : rd N y = .v b) (h : aBin op a b = some r) :
    LOp P ⟨some d, .binOp op t x y t', ty, pos, aft, gd⟩ N [] [(d, .v r)] [.slot d] := by
  refine LOp.v rfl fun g V oN ac w hp => ?_
  have h1 := rd_v hp.val hp.esN hx
  have h2 := rd_v hp.val hp.esN hy
  simp only [execOp, h1, h2, Sem.run_bind]
  have := run_bin (P := P) (w := w) (t := t) (x := x) (y := y) h
  simp only [Sem.run_bind] at this
  rw [this]
  simp

theorem run_equal_bool {t : TypeId} (a b : Bool) (hT : P.underlying t = some .bool) : (Op.equal t (.bool a) (.bool b)).run P w = .ok (a == b) w := by
  unfold Op.equal
  rw [show Op.maxDepth = 9999 + 1 from rfl]
  generalize 9999 = d
  simp [Op.equalIn, run_underlying hT]
theorem binOp_eql_bool (t : TypeId) (a b : Bool) : binOp .eql t (.bool a) (.bool b) = (do pure (.bool (← Op.equal t (.bool a) (.bool b)))) := rfl
theorem binOp_neq_bool (t : TypeId) (a b : Bool) : binOp .neq t (.bool a) (.bool b) = (do pure (.bool (!(← Op.equal t (.bool a) (.bool b))))) := rfl

/-- '==' and '!=' on truth values. -/
theorem op_beq (N : List Ent) (d : Nat) {t t' : TypeId} {x y : Operand} (a b : Bool) (hT : P.underlying t = some .bool) (hx : rd N x = .v (.bool a)) (hy : rd N y = .v (.bool b)) :
    LOp P ⟨some d, .binOp .eql t x y t', ty, pos, aft, gd⟩ N [] [(d, .v (.bool (a == b)))] [.slot d] := by
  refine LOp.v rfl fun g V oN ac w hp => ?_
  have h1 := rd_v hp.val hp.esN hx
  have h2 := rd_v hp.val hp.esN hy
  have hg : eqGuard .eql t x y (.bool a) (.bool b) = pure () := by unfold eqGuard; simp
  simp only [execOp, h1, h2, hg, binOp_eql_bool, Sem.run_bind, run_equal_bool a b hT]
  simp
theorem op_bne (N : List Ent) (d : Nat) {t t' : TypeId} {x y : Operand} (a b : Bool) (hT : P.underlying t = some .bool) (hx : rd N x = .v (.bool a)) (hy : rd N y = .v (.bool b)) :
    LOp P ⟨some d, .binOp .neq t x y t', ty, pos, aft, gd⟩ N [] [(d, .v (.bool (!(a == b))))] [.slot d] := by
  refine LOp.v rfl fun g V oN ac w hp => ?_
  have h1 := rd_v hp.val hp.esN hx
  have h2 := rd_v hp.val hp.esN hy
  have hg : eqGuard .neq t x y (.bool a) (.bool b) = pure () := by unfold eqGuard; simp
  simp only [execOp, h1, h2, hg, binOp_neq_bool, Sem.run_bind, run_equal_bool a b hT]
  simp

def aUn (op : UnOp) (x : Value) : Option Value :=
  match op, x with
  | .not, .bool b => some (.bool !b)
  | .neg, .int k n => some (.int k (k.wrap (0 - n)))
  | .xor, .int k n => some (.int k (bits .xor k (if k.signed then -1 else k.max) n))
  | _, _ => none

theorem op_un (N : List Ent) (d : Nat) {op : UnOp} {t : TypeId} {x : Operand} (a r : Value) (hx : rd N x = .v a) (h : aUn op a = some r) :
    LOp P ⟨some d, .unOp op t x, ty, pos, aft, gd⟩ N [] [(d, .v r)] [.slot d] := by
  refine LOp.v rfl fun g V oN ac w hp => ?_
  have h1 := rd_v hp.val hp.esN hx
  unfold aUn at h
  split at h <;> cases h
  · simp [execOp, h1, Op.unary]
  · simp [execOp, h1, Op.unary, Op.intArith]
  · simp [execOp, h1, Op.unary, intBits_xor]

theorem op_conv (N : List Ent) (d : Nat) {s t : TypeId} {x : Operand} {e : TypeDesc} {k k' : IntKind} (n : Int) (hs : P.underlying s = some e) (ht : P.underlying t = some (.int k)) (hx : rd N x = .v (.int k' n)) :
    LOp P ⟨some d, .convert s t x, ty, pos, aft, gd⟩ N [] [(d, .v (.int k (k.wrap n)))] [.slot d] := by
  refine LOp.v rfl fun g V oN ac w hp => ?_
  have h1 := rd_v hp.val hp.esN hx
  simp [execOp, h1, convert, run_underlying hs, run_underlying ht, Conv.intToInt]

theorem op_pick (N : List Ent) (d : Nat) {c x y : Operand} (b : Bool) (r : Value) (hc : rd N c = .v (.bool b)) (h : rd N (if b then x else y) = .v r) :
    LOp P ⟨some d, .pick c x y, ty, pos, aft, gd⟩ N [] [(d, .v r)] [.slot d] := by
  refine LOp.v rfl fun g V oN ac w hp => ?_
  have h1 := rd_v hp.val hp.esN hc
  have h2 := rd_v hp.val hp.esN h
  simp only [execOp, h1, asBool]
  cases b <;> simp_all

theorem op_len_fl (N : List Ent) (d : Nat) {t t' e : TypeId} {x : Operand} {m : Md} {z : Nat} {xs : List Value} (n : Nat) (hT : P.underlying t = some (.slice e)) (hx : rd N x = .fl m z xs) (hz : 0 < z) (hn : xs.length = n * z) :
    LOp P ⟨some d, .call ⟨.builtin .len, #[x], #[t]⟩, t', pos, aft, gd⟩ N [] [(d, .v (.int .i64 (n : Int)))] [.slot d] := by
  refine LOp.v rfl fun g V oN ac w hp => ?_
  obtain ⟨o', _, hr⟩ := rd_R hp.val hp.esN x
  rw [hx] at hr
  simp only [R] at hr
  obtain ⟨a, n', c, ⟨he, _⟩, hl, _⟩ := hr
  have : n' = n := Nat.eq_of_mul_eq_mul_right hz (by omega)
  subst this
  simp [execOp, resolve, invoke, builtin, Builtin.len_, he, run_underlying hT, goInt]

theorem op_len_str (N : List Ent) (d : Nat) {t t' : TypeId} {x : Operand} (s : ByteArray) (hT : P.underlying t = some .string) (hx : rd N x = .v (.string s)) :
    LOp P ⟨some d, .call ⟨.builtin .len, #[x], #[t]⟩, t', pos, aft, gd⟩ N [] [(d, .v (.int .i64 (s.size : Int)))] [.slot d] := by
  refine LOp.v rfl fun g V oN ac w hp => ?_
  have h1 := rd_v hp.val hp.esN hx
  simp [execOp, resolve, invoke, builtin, Builtin.len_, h1, run_underlying hT, goInt]

theorem op_min (N : List Ent) (d : Nat) {ts : Array TypeId} {t' : TypeId} {x y : Operand} {k : IntKind} (a b : Int) (hx : rd N x = .v (.int k a)) (hy : rd N y = .v (.int k b)) :
    LOp P ⟨some d, .call ⟨.builtin .min, #[x, y], ts⟩, t', pos, aft, gd⟩ N [] [(d, .v (.int k (if b < a then b else a)))] [.slot d] := by
  refine LOp.v rfl fun g V oN ac w hp => ?_
  have h1 := rd_v hp.val hp.esN hx
  have h2 := rd_v hp.val hp.esN hy
  simp [execOp, resolve, invoke, builtin, Builtin.min_, h1, h2, Builtin.min2]
theorem op_max (N : List Ent) (d : Nat) {ts : Array TypeId} {t' : TypeId} {x y : Operand} {k : IntKind} (a b : Int) (hx : rd N x = .v (.int k a)) (hy : rd N y = .v (.int k b)) :
    LOp P ⟨some d, .call ⟨.builtin .max, #[x, y], ts⟩, t', pos, aft, gd⟩ N [] [(d, .v (.int k (if b > a then b else a)))] [.slot d] := by
  refine LOp.v rfl fun g V oN ac w hp => ?_
  have h1 := rd_v hp.val hp.esN hx
  have h2 := rd_v hp.val hp.esN hy
  simp [execOp, resolve, invoke, builtin, Builtin.max_, h1, h2, Builtin.max2]

/-- A byte of a text. -/
theorem op_index_str (N : List Ent) (d : Nat) {t : TypeId} {x y : Operand} {k : IntKind} (s : ByteArray) (i : Nat) (b : UInt8) (hT : P.underlying t = some .string) (hx : rd N x = .v (.string s)) (hy : rd N y = .v (.int k (i : Int)))
    (hb : s.data.toList[i]? = some b) : LOp P ⟨some d, .index t x y, ty, pos, aft, gd⟩ N [] [(d, .v (.int .u8 (b.toNat : Int)))] [.slot d] := by
  refine LOp.v rfl fun g V oN ac w hp => ?_
  have h1 := rd_v hp.val hp.esN hx
  have h2 := rd_v hp.val hp.esN hy
  have hlt : i < s.size := by
    have := (List.getElem?_eq_some_iff.1 hb).1
    simpa using this
  have hs : s[i]? = some b := by
    have := (List.getElem?_eq_some_iff.1 hb).2
    rw [getElem?_pos s i hlt]
    exact congrArg some (by simpa using this : s.data[i] = b)
  simp [execOp, Instr.index, h1, h2, asIntOf, run_underlying hT, hs]

/-- A piece of a text. -/
theorem op_slice_str (N : List Ent) (d : Nat) {t : TypeId} {x : Operand} {lo hi : Option Operand} (s : ByteArray) (l h : Nat) (hT : P.underlying t = some .string) (hx : rd N x = .v (.string s))
    (hl : match lo with | some y => ∃ k, rd N y = .v (.int k (l : Int)) | none => l = 0) (hh : match hi with | some y => ∃ k, rd N y = .v (.int k (h : Int)) | none => h = s.size) (h1 : l ≤ h) (h2 : h ≤ s.size) :
    LOp P ⟨some d, .slice t x lo hi none, ty, pos, aft, gd⟩ N [] [(d, .v (.string (s.extract l h)))] [.slot d] := by
  refine LOp.v rfl fun g V oN ac w hp => ?_
  have e1 := rd_v hp.val hp.esN hx
  have e2 : ∀ y, lo = some y → ∃ k, ac.eval y = .int k (l : Int) := by
    intro y hy; subst hy; obtain ⟨k, hk⟩ := hl; exact ⟨k, rd_v hp.val hp.esN hk⟩
  have e3 : ∀ y, hi = some y → ∃ k, ac.eval y = .int k (h : Int) := by
    intro y hy; subst hy; obtain ⟨k, hk⟩ := hh; exact ⟨k, rd_v hp.val hp.esN hk⟩
  cases lo with
  | none =>
    simp only at hl; subst hl
    cases hi with
    | none =>
      simp only at hh; subst hh
      simp [execOp, Instr.sliceAt, Instr.slice, run_underlying hT, e1, Instr.sliceBounds]
    | some y =>
      obtain ⟨k, hk⟩ := e3 y rfl
      simp [execOp, Instr.sliceAt, Instr.slice, run_underlying hT, e1, Instr.sliceBounds, Instr.sliceBound, asIntOf, hk, h2]
  | some y =>
    obtain ⟨k, hk⟩ := e2 y rfl
    cases hi with
    | none =>
      simp only at hh; subst hh
      simp [execOp, Instr.sliceAt, Instr.slice, run_underlying hT, e1, Instr.sliceBounds, Instr.sliceBound, asIntOf, hk, h1]
    | some y' =>
      obtain ⟨k', hk'⟩ := e3 y' rfl
      simp [execOp, Instr.sliceAt, Instr.slice, run_underlying hT, e1, Instr.sliceBounds, Instr.sliceBound, asIntOf, hk, hk', h1, h2]

/-- A component of several results. -/
theorem op_extract (N : List Ent) (t d : Nat) {i : Nat} (cs : List AV) (av : AV) (hlk : look N t = .tup cs) (hi : dupCell (cs.getD i .any) = av) (hlt : i < cs.length) (hcl : clr [.slot d] av = true) (hb : noBox av = true) :
    LOp P ⟨some d, .extract (.tmp t) i, ty, pos, aft, gd⟩ N [] [(d, av)] [.slot d] := by
  refine LOp.value rfl hcl hb fun g V oN ac w hp => ?_
  obtain ⟨o', _, hr, _⟩ := look_ER hp.esN t
  dsimp only at hr
  rw [hlk] at hr
  simp only [R] at hr
  obtain ⟨xs, hx, hrs⟩ := hr
  have hl := Rs_length hrs
  obtain ⟨o2, _, h2⟩ := Rs_get i hrs hlt
  have hix : i < xs.length := by omega
  refine ⟨xs.getD i undef, ?_, by rw [← hi]; exact dupCell_R h2⟩
  have : ac.eval (.tmp t) = .tuple xs.toArray := by simp only [Act.eval, ← hp.val]; exact hx
  simp [execOp, this, Instr.extract, hix]
end
end Go.Abs
