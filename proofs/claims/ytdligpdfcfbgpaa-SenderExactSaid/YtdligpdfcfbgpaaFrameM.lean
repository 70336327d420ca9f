import Derived.Test.YtdligpdfcfbgpaaKeepM
namespace Go.Abs.Sh
set_option linter.unusedVariables false
set_option linter.unusedSimpArgs false
theorem c_and {A : Type} (b x : Bool) : cond b (some (Sum.inl x : Bool ⊕ A)) (some (.inl false)) = some (.inl (b && x)) := by cases b <;> rfl
theorem c_or {A : Type} (b x : Bool) : cond b (some (Sum.inl true : Bool ⊕ A)) (some (.inl x)) = some (.inl (b || x)) := by cases b <;> rfl
theorem c_inl {S A : Type} (b : Bool) (x y : S) : cond b (some (Sum.inl x : S ⊕ A)) (some (.inl y)) = some (.inl (cond b x y)) := by cases b <;> rfl
theorem c_some {A : Type} (b : Bool) (x y : A) : cond b (some x) (some y) = some (cond b x y) := by cases b <;> rfl
theorem b_inl {S A R : Type} (s : S) (k : S → Option R) (e : A → Option R) : bindS (some (.inl s)) k e = k s := rfl
theorem in_eq (n lo hi : Int) : wherryref18_in n lo hi = some (decide (lo ≤ n) && decide (n ≤ hi)) := by
  simp only [wherryref18_in, c_and, b_inl]
def offIn (f : T_Frame) : Bool := decide (0 ≤ f.Offset) && decide (f.Offset ≤ 5000)
def seqIn (f : T_Frame) : Bool := decide (0 ≤ f.Seq) && decide (f.Seq ≤ 7)
def numIn (f : T_Frame) : Bool := decide (1 ≤ f.Number) && decide (f.Number ≤ 65535)
def good (f : T_Frame) : Bool :=
  numIn f && ((f.Kind == 1 || f.Kind == 2) && (offIn f && (f.Seq == 0) && (f.Data.length == 0)) ||
    (f.Kind == 3) && (offIn f && seqIn f && decide (1 ≤ f.Data.length) && decide (f.Data.length ≤ 48)) ||
    (f.Kind == 4) && ((f.Offset == 0) && seqIn f && (f.Data.length == 0)) ||
    (f.Kind == 5) && ((f.Offset == 0) && (f.Seq == 0) && (f.Data.length == 0)))
theorem len0 (l : List Int) : ((l.length : Int) == 0) = (l.length == 0) := by cases l <;> simp <;> omega
theorem check_eq (f : T_Frame) : frame_Check f = some (cond (good f) 0 1) := by
  unfold frame_Check
  simp only [c_and, c_or, c_inl, b_inl, len0]
  simp only [c_some]
  congr 1
  unfold good offIn seqIn numIn
  have e1 : decide (f.Number < 1) = !decide (1 ≤ f.Number) := by by_cases h : 1 ≤ f.Number <;> simp [h] <;> omega
  have e2 : decide (65535 < f.Number) = !decide (f.Number ≤ 65535) := by by_cases h : f.Number ≤ 65535 <;> simp [h] <;> omega
  have e3 : decide ((f.Data.length : Int) ≤ 48) = decide (f.Data.length ≤ 48) := by by_cases h : f.Data.length ≤ 48 <;> simp [h] <;> omega
  have e4 : decide (1 ≤ f.Data.length) = !(f.Data.length == 0) := by cases h : f.Data.length <;> simp
  rw [e1, e2, e3, e4]
  by_cases h1 : f.Kind = 1
  · simp only [h1]; cases decide (1 ≤ f.Number) <;> cases decide (f.Number ≤ 65535) <;> simp <;> cases decide (0 ≤ f.Offset) <;> cases decide (f.Offset ≤ 5000) <;> cases (f.Seq == 0) <;> cases (f.Data.length == 0) <;> simp
  by_cases h2 : f.Kind = 2
  · simp only [h2]; cases decide (1 ≤ f.Number) <;> cases decide (f.Number ≤ 65535) <;> simp <;> cases decide (0 ≤ f.Offset) <;> cases decide (f.Offset ≤ 5000) <;> cases (f.Seq == 0) <;> cases (f.Data.length == 0) <;> simp
  by_cases h3 : f.Kind = 3
  · simp only [h3]; cases decide (1 ≤ f.Number) <;> cases decide (f.Number ≤ 65535) <;> simp <;> cases decide (0 ≤ f.Offset) <;> cases decide (f.Offset ≤ 5000) <;> cases decide (0 ≤ f.Seq) <;> cases decide (f.Seq ≤ 7) <;> cases (f.Data.length == 0) <;> cases decide (f.Data.length ≤ 48) <;> simp
  by_cases h4 : f.Kind = 4
  · simp only [h4]; cases decide (1 ≤ f.Number) <;> cases decide (f.Number ≤ 65535) <;> simp <;> cases (f.Offset == 0) <;> cases decide (0 ≤ f.Seq) <;> cases decide (f.Seq ≤ 7) <;> cases (f.Data.length == 0) <;> simp
  by_cases h5 : f.Kind = 5
  · simp only [h5]; cases decide (1 ≤ f.Number) <;> cases decide (f.Number ≤ 65535) <;> simp <;> cases (f.Offset == 0) <;> cases (f.Seq == 0) <;> cases (f.Data.length == 0) <;> simp
  have k1 : (f.Kind == 1) = false := by simp [h1]
  have k2 : (f.Kind == 2) = false := by simp [h2]
  have k3 : (f.Kind == 3) = false := by simp [h3]
  have k4 : (f.Kind == 4) = false := by simp [h4]
  have k5 : (f.Kind == 5) = false := by simp [h5]
  simp [k1, k2, k3, k4, k5]
theorem keepFrame_eq (a b : T_Frame) (hl : a.Data.length < 4294967296) : wherrykeep_Frame a b = some (decide (a = b)) := by
  unfold wherrykeep_Frame
  rw [keepBytes_eq _ _ hl]
  simp only [Option.bind_some, c_and, b_inl]
  congr 1
  cases a; cases b
  simp only [T_Frame.mk.injEq]
  simp only [Bool.decide_and]
  rfl
end Go.Abs.Sh
