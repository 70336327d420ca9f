/-
  Words for texts made by program: how an equation 'told in Lean = some r' is taken apart; partial operations; passing an exit through.
-/
import Derived.Test.YtbioodcjmceefaaAD
namespace Go.Abs

abbrev BIG : Nat := 18446744073709551616

def bindS {S A R : Type} (m : Option (S ⊕ A)) (k : S → Option R) (e : A → Option R) : Option R :=
  match m with
  | none => none
  | some (.inl s) => k s
  | some (.inr a) => e a

theorem bind_some {A R : Type} {m : Option A} {f : A → Option R} {r : R} (h : m.bind f = some r) : ∃ x, m = some x ∧ f x = some r := by
  cases m with
  | none => cases h
  | some x => exact ⟨x, rfl, h⟩
theorem cond_some {R : Type} {c : Bool} {x y : Option R} {r : R} {G : Prop} (h : cond c x y = some r) (ht : c = true → x = some r → G) (hf : c = false → y = some r → G) : G := by
  cases c
  · exact hf rfl h
  · exact ht rfl h
theorem cond_t {R : Type} {c : Bool} {x y : Option R} {r : R} (hc : c = true) (h : cond c x y = some r) : x = some r := by subst hc; exact h
theorem cond_f {R : Type} {c : Bool} {x y : Option R} {r : R} (hc : c = false) (h : cond c x y = some r) : y = some r := by subst hc; exact h
/-- A part's outcome u; what comes of it. -/
theorem bindS_some {S A R : Type} {m : Option (S ⊕ A)} {k : S → Option R} {e : A → Option R} {r : R} (h : bindS m k e = some r) : ∃ u, m = some u ∧ (∀ s, u = .inl s → k s = some r) ∧ (∀ a, u = .inr a → e a = some r) := by
  cases m with
  | none => cases h
  | some u =>
    refine ⟨u, rfl, fun s hs => ?_, fun a ha => ?_⟩
    · subst hs; exact h
    · subst ha; exact h

def shlO (k : IntKind) (a b : Int) : Option Int := if 0 ≤ b then some (k.wrap (a * 2 ^ min b.toNat k.bits)) else none
def shrO (k : IntKind) (a b : Int) : Option Int := if 0 ≤ b then some (a.fdiv (2 ^ min b.toNat k.bits)) else none
def quoO (k : IntKind) (a b : Int) : Option Int := if b = 0 then none else some (k.wrap (a.tdiv b))
def remO (a b : Int) : Option Int := if b = 0 then none else some (a.tmod b)
/-- An index within a length. -/
def ixO (i : Int) (n : Nat) : Option Nat := if 0 ≤ i ∧ i < (n : Int) then some i.toNat else none
def getO {A : Type} (l : List A) (i : Nat) : Option A := l[i]?

theorem shl_ok {k k' : IntKind} {a b x : Int} (h : shlO k a b = some x) : aBin .shl (.int k a) (.int k' b) = some (.int k x) := by
  unfold shlO at h
  split at h
  · rename_i hb; cases h; simp [aBin, hb]
  · cases h
theorem shr_ok {k k' : IntKind} {a b x : Int} (h : shrO k a b = some x) : aBin .shr (.int k a) (.int k' b) = some (.int k x) := by
  unfold shrO at h
  split at h
  · rename_i hb; cases h; simp [aBin, hb]
  · cases h
theorem quo_ok {k : IntKind} {a b x : Int} (h : quoO k a b = some x) : aBin .quo (.int k a) (.int k b) = some (.int k x) := by
  unfold quoO at h
  split at h
  · cases h
  · rename_i hb; cases h; simp [aBin, hb]
theorem rem_ok {k : IntKind} {a b x : Int} (h : remO a b = some x) : aBin .rem (.int k a) (.int k b) = some (.int k x) := by
  unfold remO at h
  split at h
  · cases h
  · rename_i hb; cases h; simp [aBin, hb]
theorem ix_ok {i : Int} {n k : Nat} (h : ixO i n = some k) : i = (k : Int) ∧ k < n := by
  unfold ixO at h
  split at h
  · rename_i hb; cases h; omega
  · cases h
theorem ibind {A : Type} {f : A → Value} {e x : A} (h : e = x) : some (f e) = some (f x) := by rw [h]

section
variable {P : Program} {Q : Exit → Act → World → Prop} {g0 : Gh}
theorem ht_mid {c : Code} {es es' : List Ent} (h1 : ∀ Q, PT Q g0 .normal es' → HT P Q g0 c es) (h2 : PT Q g0 .normal es') : HT P Q g0 c es := h1 Q h2
theorem pt_inb {id : Nat} {es : List Ent} (h : PT Q g0 .normal es) : PT (Exit.inBlock id Q) g0 .normal es := h
theorem pt_x_then {id : Nat} {K : Act → World → Prop} {es : List Ent} (h : PT Q g0 (.exit id) es) : PT (Exit.then K Q) g0 (.exit id) es := h
theorem pt_x_in {id : Nat} {es : List Ent} (h : PT Q g0 .normal es) : PT (Exit.inBlock id Q) g0 (.exit id) es := fun g a w hg hs => by
  simp only [Exit.inBlock, if_true]; exact h g a w hg hs
theorem pt_x_out {id id' : Nat} {es : List Ent} (hne : id' ≠ id) (h : PT Q g0 (.exit id') es) : PT (Exit.inBlock id Q) g0 (.exit id') es := fun g a w hg hs => by
  simp only [Exit.inBlock]; rw [if_neg hne]; exact h g a w hg hs
theorem pt_r_then {K : Act → World → Prop} {es : List Ent} (h : PT Q g0 .ret es) : PT (Exit.then K Q) g0 .ret es := h
theorem pt_r_in {id : Nat} {es : List Ent} (h : PT Q g0 .ret es) : PT (Exit.inBlock id Q) g0 .ret es := h
/-- A part whose normal end is met on several ways. -/
theorem ht_join {c : Code} {es : List Ent} (h : ∀ Q', (∀ es', PT Q g0 .normal es' → PT Q' g0 .normal es') → HT P Q' g0 c es) : HT P Q g0 c es := h Q fun _ h => h

/-- What is known is also known so. -/
def Sub (av av' : AV) : Prop := ∀ g V w x o, R g V w av x o → R g V w av' x o
def Subs (cs cs' : List AV) : Prop := ∀ g V w xs o, Rs g V w cs xs o → Rs g V w cs' xs o
theorem sub_refl (av : AV) : Sub av av := fun _ _ _ _ _ h => h
theorem sub_nil (E : TypeId) (z : Nat) : Sub (.v (.slice none 0 0)) (.fl (.own E) z []) := fun g V w x o h => by
  simp only [R, modeOk] at *
  obtain ⟨rfl, rfl⟩ := h
  exact ⟨none, 0, 0, ⟨rfl, Nat.le_refl _⟩, by simp, by simp, fun h => absurd rfl h, World.ownsRow_nil w 0 E z, rfl⟩
theorem sub_nil_shr (z : Nat) : Sub (.v (.slice none 0 0)) (.fl .shr z []) := fun g V w x o h => by
  simp only [R, modeOk] at *
  obtain ⟨rfl, rfl⟩ := h
  exact ⟨none, 0, 0, ⟨rfl, Nat.le_refl _⟩, by simp, by simp, fun h => absurd rfl h, rfl, fun h => absurd rfl h⟩
theorem subs_nil : Subs [] [] := fun _ _ _ _ _ h => h
theorem subs_cons {c c' : AV} {cs cs' : List AV} (h : Sub c c') (hs : Subs cs cs') : Subs (c :: cs) (c' :: cs') := fun g V w xs o hr => by
  simp only [Rs] at *
  obtain ⟨x, xs', o1, o2, h1, h2, h3, h4⟩ := hr
  exact ⟨x, xs', o1, o2, h1, h2, h _ _ _ _ _ h3, hs _ _ _ _ _ h4⟩
theorem subs_refl (cs : List AV) : Subs cs cs := fun _ _ _ _ _ h => h
theorem sub_agg {cs cs' : List AV} (h : Subs cs cs') : Sub (.agg cs) (.agg cs') := fun g V w x o hr => by
  simp only [R] at *
  obtain ⟨xs, e, hr⟩ := hr
  exact ⟨xs, e, h _ _ _ _ _ hr⟩
theorem sub_box {T : TypeId} {cs cs' : List AV} (h : Subs cs cs') : Sub (.box T cs) (.box T cs') := fun g V w x o hr => by
  simp only [R] at *
  obtain ⟨b, xs, os, h1, h2, h3, hr⟩ := hr
  exact ⟨b, xs, os, h1, h2, h3, h _ _ _ _ _ hr⟩

/-- One entry after the other, known otherwise. -/
inductive SubE : List Ent → List Ent → Prop
  | nil : SubE [] []
  | same (e : Ent) {es fs : List Ent} (h : SubE es fs) : SubE (e :: es) (e :: fs)
  | sub (t : Nat) {av av' : AV} {es fs : List Ent} (hs : Sub av av') (hb : noBox av' = true) (h : SubE es fs) : SubE ((t, av) :: es) ((t, av') :: fs)
  | box (t : Nat) (T : TypeId) {cs cs' : List AV} {es fs : List Ent} (hs : Subs cs cs') (hl : cs'.length = cs.length) (h : SubE es fs) : SubE ((t, .box T cs) :: es) ((t, .box T cs') :: fs)
theorem SubE_Es {g : Gh} {V : Loc → Value} {w : World} {es fs : List Ent} (h : SubE es fs) : ∀ {o : List Nat}, Es g V w es o → Es g V w fs o := by
  induction h with
  | nil => intro o h; exact h
  | same e h ih => rintro o ⟨o1, o2, rfl, h1, h2⟩; exact ⟨o1, o2, rfl, h1, ih h2⟩
  | @sub t av av' es fs hs hb h ih =>
    rintro o ⟨o1, o2, rfl, ⟨h1, _⟩, h2⟩
    refine ⟨o1, o2, rfl, ⟨hs _ _ _ _ _ h1, ?_⟩, ih h2⟩
    cases av' <;> first | trivial | (simp [noBox] at hb)
  | box t T hs hl h ih =>
    rintro o ⟨o1, o2, rfl, ⟨h1, ht⟩, h2⟩
    exact ⟨o1, o2, rfl, ⟨sub_box hs _ _ _ _ _ h1, fun b hb i hi => ht b hb i (by omega)⟩, ih h2⟩
theorem ht_sub {c : Code} {es fs : List Ent} (hs : SubE es fs) (h : HT P Q g0 c fs) : HT P Q g0 c es := fun g a w hg hsat => h g a w hg (by
  obtain ⟨V, o, h1, h2⟩ := hsat; exact ⟨V, o, h1, SubE_Es hs h2⟩)
theorem pt_sub {e : Exit} {es fs : List Ent} (hs : SubE es fs) (h : PT Q g0 e fs) : PT Q g0 e es := fun g a w hg hsat => h g a w hg (by
  obtain ⟨V, o, h1, h2⟩ := hsat; exact ⟨V, o, h1, SubE_Es hs h2⟩)
theorem pt_frz {e : Exit} {es es' : List Ent} (i : Nat) (hio : g0.io = []) (he : (es.modify i fun e => (e.1, frz e.2)) = es') (h : PT Q g0 e es') : PT Q g0 e es := by
  intro g a w hg hs
  subst he
  obtain ⟨g', hle, hs'⟩ := sat_frz i (by rw [hg.io]; exact hio) hs
  exact h g' a w (hg.trans hle) hs'

/-- A function that is known so of finer arguments, is. -/
theorem FnOK.args {f : FuncId} {args args' : List AV} {res : AV} (h : FnOK P f args' res) (hs : Subs args args') : FnOK P f args res := fun Imm Im w xs hi hr => h Imm Im w xs hi (hs _ _ _ _ _ hr)
end
end Go.Abs
