/-
  Calls, what a function answers, the rules of code.
-/
import Derived.Test.YtbioodcjmceefaaAB
namespace Go.Abs

mutual
/-- Names no place. -/
def closed : AV → Bool
  | .any => true
  | .v _ => true
  | .fl .. => true
  | .agg cs => closeds cs
  | .tup cs => closeds cs
  | .box _ cs => closeds cs
  | .same _ => false
  | .ptr .. => false
  | .eref .. => false
  | .arr .. => true
  | .fr .. => true
  | .glob _ => true
  | .obox _ _ cs => closeds cs
  | .clo .. => false
  | .cut .. => false
def closeds : List AV → Bool
  | [] => true
  | c :: cs => closed c && closeds cs
end
mutual
def noShr : AV → Bool
  | .fl .shr _ _ => false
  | .fr .shr _ _ _ => false
  | .fr _ s _ _ => !s
  | .agg cs => noShrs cs
  | .tup cs => noShrs cs
  | .box _ cs => noShrs cs
  | .obox _ _ cs => noShrs cs
  | .glob _ => false
  | _ => true
def noShrs : List AV → Bool
  | [] => true
  | c :: cs => noShr c && noShrs cs
end

theorem modeOk_gh {g g' : Gh} {w : World} {m : Md} {z n : Nat} {x : Value} {a : Option Addr} {xs : List Value} {o : List Nat} (hI : ∀ b, g.Imm b → g'.Imm b) (hM : (∀ b, g.Im b → g'.Im b) ∨ (match m with | .shr => False | _ => True))
    (h : modeOk g w m z x n a xs o) : modeOk g' w m z x n a xs o := by
  cases m with
  | own T => exact h
  | ro => exact ⟨h.1, fun hne => let ⟨ad, e, hi⟩ := h.2 hne; ⟨ad, e, hI _ hi⟩⟩
  | shr =>
    rcases hM with hM | hM
    · exact ⟨h.1, fun hne => let ⟨ad, e, hi⟩ := h.2 hne; ⟨ad, e, hi.imp (hI _) (hM _)⟩⟩
    · exact hM.elim

mutual
/-- What names no place is so whatever the places hold; without 'shr' it hangs on what is frozen alone. -/
theorem R_closed {g g' : Gh} {V V' : Loc → Value} {w : World} (hI : ∀ b, g.Imm b → g'.Imm b) :
    ∀ (av : AV) (x : Value) (o : List Nat), closed av = true → ((∀ b, g.Im b → g'.Im b) ∨ noShr av = true) → R g V w av x o → R g' V' w av x o
  | .any, x, o, _, _, h => by simp only [R] at *; exact h
  | .v y, x, o, _, _, h => by simp only [R] at *; exact h
  | .fl m z xs, x, o, _, hM, h => by
    simp only [R] at *
    obtain ⟨a, n, c, h1, h2, h3, h4, h5⟩ := h
    refine ⟨a, n, c, h1, h2, h3, h4, modeOk_gh hI (hM.imp id fun h => ?_) h5⟩
    cases m <;> simp_all [noShr]
  | .agg cs, x, o, hc, hM, h => by
    simp only [R, closed, noShr] at *
    obtain ⟨xs, e, h⟩ := h
    exact ⟨xs, e, Rs_closed hI cs xs o hc hM h⟩
  | .tup cs, x, o, hc, hM, h => by
    simp only [R, closed, noShr] at *
    obtain ⟨xs, e, h⟩ := h
    exact ⟨xs, e, Rs_closed hI cs xs o hc hM h⟩
  | .box T cs, x, o, hc, hM, h => by
    simp only [R, closed, noShr] at *
    obtain ⟨b, xs, os, h1, h2, h3, h⟩ := h
    exact ⟨b, xs, os, h1, h2, h3, Rs_closed hI cs xs os hc hM h⟩
  | .same l, x, o, hc, _, h => by simp [closed] at hc
  | .ptr t i, x, o, hc, _, h => by simp [closed] at hc
  | .eref l k, x, o, hc, _, h => by simp [closed] at hc
  | .arr T vs, x, o, _, _, h => by simp only [R] at *; exact h
  | .glob gl, x, o, _, hM, h => by
    simp only [R] at *
    rcases hM with hM | hM
    · exact ⟨fun p hp => let ⟨h1, h2⟩ := h.1 p hp; ⟨h1.imp (hI _) (hM _), h2⟩, h.2⟩
    · simp [noShr] at hM
  | .obox p T cs, x, o, hc, hM, h => by
    simp only [R, closed, noShr] at *
    refine ⟨fun hp => ?_, h.2⟩
    obtain ⟨b, xs, os, h1, h2, h3, h⟩ := h.1 hp
    exact ⟨b, xs, os, h1, h2, h3, Rs_closed hI cs xs os hc hM h⟩
  | .clo f ts, x, o, hc, _, h => by simp [closed] at hc
  | .cut l k, x, o, hc, _, h => by simp [closed] at hc
  | .fr m s z cs, x, o, _, hM, h => by
    simp only [R] at *
    obtain ⟨vs, a, n, c, h1, h2, h3, h4, h5, h6⟩ := h
    rcases hM with hM | hM
    · exact ⟨vs, a, n, c, h1, h2, h3, h4, modeOk_gh hI (.inl hM) h5, RIs_stab (fun b h => immB_mono hI hM h) (fun _ _ => rfl) cs vs h6⟩
    · cases m <;> cases s <;> simp [noShr] at hM
      · exact ⟨vs, a, n, c, h1, h2, h3, h4, h5, RIs_stab (s := false) (s' := false) hI (fun _ _ => rfl) cs vs h6⟩
      · exact ⟨vs, a, n, c, h1, h2, h3, h4, modeOk_gh hI (.inr trivial) h5, RIs_stab (s := false) (s' := false) hI (fun _ _ => rfl) cs vs h6⟩
theorem Rs_closed {g g' : Gh} {V V' : Loc → Value} {w : World} (hI : ∀ b, g.Imm b → g'.Imm b) :
    ∀ (cs : List AV) (xs : List Value) (o : List Nat), closeds cs = true → ((∀ b, g.Im b → g'.Im b) ∨ noShrs cs = true) → Rs g V w cs xs o → Rs g' V' w cs xs o
  | [], xs, o, _, _, h => by simp only [Rs] at *; exact h
  | c :: cs, xs, o, hc, hM, h => by
    simp only [Rs, closeds, noShrs, Bool.and_eq_true] at *
    obtain ⟨x, xs', o1, o2, h1, h2, h3, h4⟩ := h
    exact ⟨x, xs', o1, o2, h1, h2, R_closed hI c x o1 hc.1 (hM.imp id And.left) h3, Rs_closed hI cs xs' o2 hc.2 (hM.imp id And.right) h4⟩
end

def gh0 (w : World) (Imm Im : Nat → Prop) : Gh := ⟨0, w, [], Imm, Im⟩
def V0 : Loc → Value := fun _ => undef

/-- A call's answer: a value known as 'res'; what was there is as it was; what was frozen is. -/
def Ans (Imm Im : Nat → Prop) (w : World) (res : AV) (e : Ending) (w' : World) : Prop :=
  ∃ x, e = .returned x ∧ Chg [] w w' ∧ ∃ (Imm' : Nat → Prop) (o : List Nat), (∀ b, Imm b → Imm' b) ∧ (∀ b, Imm' b → Imm b ∨ (w.heap.size ≤ b ∧ b < w'.heap.size)) ∧
    R (gh0 w Imm' Im) V0 w' res x o ∧ o.Nodup ∧ ∀ b ∈ o, w.heap.size ≤ b ∧ b < w'.heap.size ∧ ¬ Imm' b

/-- The function, called with what is known as 'args', answers what is known as 'res'. -/
def FnOK (P : Program) (f : FuncId) (args : List AV) (res : AV) : Prop :=
  ∀ (Imm Im : Nat → Prop) (w : World) (xs : List Value), (∀ b, Imm b ∨ Im b → b < w.heap.size) → Rs (gh0 w Imm Im) V0 w args xs [] → Calls P f xs.toArray w (Ans Imm Im w res)

def toArg (N : List Ent) : AV → AV
  | .v x => .v x
  | .fl _ z xs => .fl .shr z xs
  | .fr _ _ z xs => .fr .shr true z xs
  | .same l => match locv N l with
    | .fl _ z xs => .fl .shr z xs
    | .fr _ _ z xs => .fr .shr true z xs
    | .v x => .v x
    | _ => .any
  | _ => .any
def argv (N : List Ent) (x : Operand) : AV :=
  match rd N x with
  | .agg cs => .agg (cs.map (toArg N))
  | av => toArg N av

section
variable {g : Gh} {V : Loc → Value} {w : World} {N : List Ent} {oN : List Nat}

theorem fl_shr {g' : Gh} {V' : Loc → Value} (hI : g'.Imm = g.Imm) (hM : ∀ b, g.Im b ∨ b ∈ oN → g'.Im b) {m : Md} {z : Nat} {xs : List Value} {x : Value} {o : List Nat} (ho : ∀ b ∈ o, b ∈ oN) (h : R g V w (.fl m z xs) x o) :
    R g' V' w (.fl .shr z xs) x [] := by
  cases m with
  | own T =>
    simp only [R, modeOk] at *
    obtain ⟨a, n, c, h1, h2, h3, h4, h5, h6⟩ := h
    refine ⟨a, n, c, h1, h2, h3, h4, trivial, fun hne => ?_⟩
    obtain ⟨ad, rfl, _⟩ := h4 hne
    refine ⟨ad, rfl, .inr (hM _ (.inr (ho _ ?_)))⟩
    rw [h6, h1.1]; simp [Value.ownBlock]
  | ro =>
    simp only [R, modeOk] at *
    obtain ⟨a, n, c, h1, h2, h3, h4, h5, h6⟩ := h
    exact ⟨a, n, c, h1, h2, h3, h4, trivial, fun hne => let ⟨ad, e, hi⟩ := h6 hne; ⟨ad, e, .inl (hI ▸ hi)⟩⟩
  | shr =>
    simp only [R, modeOk] at *
    obtain ⟨a, n, c, h1, h2, h3, h4, h5, h6⟩ := h
    exact ⟨a, n, c, h1, h2, h3, h4, trivial, fun hne => let ⟨ad, e, hi⟩ := h6 hne; ⟨ad, e, hi.imp (fun h => hI ▸ h) fun h => hM _ (.inl h)⟩⟩

theorem fr_shr {g' : Gh} {V' : Loc → Value} (hI : g'.Imm = g.Imm) (hM : ∀ b, g.Im b ∨ b ∈ oN → g'.Im b) {m : Md} {s : Bool} {z : Nat} {cs : List IC} {x : Value} {o : List Nat} (ho : ∀ b ∈ o, b ∈ oN) (h : R g V w (.fr m s z cs) x o) :
    R g' V' w (.fr .shr true z cs) x [] := by
  simp only [R] at *
  obtain ⟨vs, a, n, c, h1, h2, h3, h4, h5, h6⟩ := h
  have hf := fl_shr (V := V) (V' := V') (x := x) (z := z) (xs := vs) hI hM ho (by simp only [R]; exact ⟨a, n, c, h1, h2, h3, h4, h5⟩)
  simp only [R] at hf
  obtain ⟨a', n', c', k1, k2, k3, k4, k5⟩ := hf
  refine ⟨vs, a', n', c', k1, k2, k3, k4, k5, RIs_stab (fun b h => ?_) (fun _ _ => rfl) cs vs h6⟩
  exact (immB_imm h).imp (fun h => hI ▸ h) fun h => hM _ (.inl h)

theorem toArg_R {g' : Gh} {V' : Loc → Value} (hI : g'.Imm = g.Imm) (hM : ∀ b, g.Im b ∨ b ∈ oN → g'.Im b) (hN : Es g V w N oN) {av : AV} {x : Value} {o : List Nat} (ho : ∀ b ∈ o, b ∈ oN) (h : R g V w av x o) : R g' V' w (toArg N av) x [] := by
  cases av with
  | v y => simp only [R, toArg] at *; exact ⟨h.1, trivial⟩
  | fl m z xs =>
    exact fl_shr (V' := V') hI hM ho h
  | fr m s z xs =>
    exact fr_shr (V' := V') hI hM ho h
  | same l =>
    simp only [R] at h
    obtain ⟨o', hs, hr⟩ := locv_R hN l
    rw [h.1]
    simp only [toArg]
    cases hl : locv N l with
    | fl m z xs =>
      rw [hl] at hr
      exact fl_shr (V' := V') hI hM hs hr
    | fr m s z xs =>
      rw [hl] at hr
      exact fr_shr (V' := V') hI hM hs hr
    | v y => rw [hl] at hr; simp only [R] at *; exact ⟨hr.1, trivial⟩
    | _ => simp [R]
  | _ => simp [R, toArg]
theorem toArgs_R {g' : Gh} {V' : Loc → Value} (hI : g'.Imm = g.Imm) (hM : ∀ b, g.Im b ∨ b ∈ oN → g'.Im b) (hN : Es g V w N oN) : ∀ {cs : List AV} {xs : List Value} {o : List Nat}, (∀ b ∈ o, b ∈ oN) → Rs g V w cs xs o → Rs g' V' w (cs.map (toArg N)) xs []
  | [], xs, o, _, h => by simp only [Rs, List.map_nil] at *; exact ⟨h.1, trivial⟩
  | c :: cs, xs, o, ho, h => by
    simp only [Rs, List.map_cons] at *
    obtain ⟨x, xs', o1, o2, rfl, rfl, h1, h2⟩ := h
    exact ⟨x, xs', [], [], rfl, rfl, toArg_R hI hM hN (fun b hb => ho b (by simp [hb])) h1, toArgs_R hI hM hN (fun b hb => ho b (by simp [hb])) h2⟩
theorem argv_R {g' : Gh} {V' : Loc → Value} {a : Act} (hI : g'.Imm = g.Imm) (hM : ∀ b, g.Im b ∨ b ∈ oN → g'.Im b) (hv : ∀ t, V (.slot t) = a.tmps.getD t undef) (hN : Es g V w N oN) (x : Operand) : R g' V' w (argv N x) (a.eval x) [] := by
  obtain ⟨o', hs, hr⟩ := rd_R hv hN x
  unfold argv
  cases hx : rd N x with
  | agg cs =>
    rw [hx] at hr
    simp only [R] at *
    obtain ⟨xs, e, h⟩ := hr
    exact ⟨xs, e, toArgs_R hI hM hN hs h⟩
  | _ => rw [hx] at hr; exact toArg_R hI hM hN hs hr
theorem argvs_R {g' : Gh} {V' : Loc → Value} {a : Act} (hI : g'.Imm = g.Imm) (hM : ∀ b, g.Im b ∨ b ∈ oN → g'.Im b) (hv : ∀ t, V (.slot t) = a.tmps.getD t undef) (hN : Es g V w N oN) : ∀ (xs : List Operand), Rs g' V' w (xs.map (argv N)) (xs.map a.eval) []
  | [] => by simp [Rs]
  | x :: xs => by
    simp only [List.map_cons, Rs]
    exact ⟨_, _, [], [], rfl, rfl, argv_R hI hM hv hN x, argvs_R hI hM hv hN xs⟩
end

section
variable {P : Program} {ty : TypeId} {pos : String} {aft : Array Edge} {gd : Option (Nat × Bool)}

/-- A call of a function that is known. -/
theorem op_call (N : List Ent) (d : Nat) (f : FuncId) {cal : Operand} {args : Array Operand} {ats : Array TypeId} (avs : List AV) (res : AV) (hcal : rd N cal = .v (.func (.func f) #[] #[])) (hrun : ∀ args w, (callFunc f args).run P w = .ok (.enter f args) w)
    (hav : args.toList.map (argv N) = avs) (hf : FnOK P f avs res) (hcl : closed res = true) (hsh : noShr res = true) :
    LOp P ⟨some d, .call ⟨.value cal, args, ats⟩, ty, pos, aft, gd⟩ N [] [(d, res)] [.slot d] := by
  have clr_closed : ∀ (W : List Loc) (av : AV), closed av = true → clr W av = true := fun W => by
    intro av
    exact AV.rec (motive_1 := fun av => closed av = true → clr W av = true) (motive_2 := fun cs => closeds cs = true → clrs W cs = true)
      (fun _ => rfl) (fun _ _ => rfl) (fun _ _ _ _ => rfl) (fun cs ih h => by simp only [clr, closed] at *; exact ih h) (fun cs ih h => by simp only [clr, closed] at *; exact ih h) (fun T cs ih h => by simp only [clr, closed] at *; exact ih h)
      (fun l h => by simp [closed] at h) (fun t i h => by simp [closed] at h) (fun l k h => by simp [closed] at h) (fun _ _ _ => rfl) (fun _ _ _ _ _ => rfl) (fun _ _ => rfl) (fun _ _ cs ih h => by simp only [clr, closed] at *; exact ih h) (fun _ _ h => by simp [closed] at h) (fun _ _ h => by simp [closed] at h) (fun _ => rfl)
      (fun c cs ih1 ih2 h => by simp only [clrs, closeds, Bool.and_eq_true] at *; exact ⟨ih1 h.1, ih2 h.2⟩) av
  refine LOp.fresh rfl (clr_closed _ _ hcl) fun g V oN a w hp => ?_
  have hcv := rd_v hp.val hp.esN hcal
  have hr : (execOp a.eval ⟨some d, .call ⟨.value cal, args, ats⟩, ty, pos, aft, gd⟩).run P w = .ok (.enter f (args.map a.eval)) w := by
    simp [execOp, resolve, hcv, Deferred.ofValue, invoke, hrun]
  have hargs : Rs (gh0 w g.Imm (fun b => g.Im b ∨ b ∈ oN)) V0 w avs (args.toList.map a.eval) [] := by
    rw [← hav]
    exact argvs_R (g := g) (g' := gh0 w g.Imm (fun b => g.Im b ∨ b ∈ oN)) rfl (fun b hb => hb) hp.val hp.esN _
  have hc := hf g.Imm (fun b => g.Im b ∨ b ∈ oN) w _ (fun b hb => by
    rcases hb with hb | hb | hb
    · exact hp.imm b (.inl hb)
    · exact hp.imm b (.inr hb)
    · exact (hp.own b (by simp [hb])).1) hargs
  have ea : (args.toList.map a.eval).toArray = args.map a.eval := by rw [← Array.toList_map]
  rw [ea] at hc
  refine Yl.call hr (hc.mono ?_)
  rintro e w' ⟨x, rfl, hchg, Imm', o, hI, hnew, hR, hnd, hfr⟩
  refine ⟨x, rfl, hchg, { g with Imm := fun b => Imm' b }, o, ⟨rfl, rfl, rfl, rfl, hI, fun b hb => ?_⟩, hnew, ?_, hnd, hfr⟩
  · rcases hnew b hb with h | h
    · exact .inl h
    · exact .inr (.inl (Nat.le_trans hp.base h.1))
  · exact R_closed (g := gh0 w Imm' (fun b => g.Im b ∨ b ∈ oN)) (g' := { g with Imm := fun b => Imm' b }) (fun _ h => h) res x o hcl (.inr hsh) hR

/-- Where a function's answers lie. -/
inductive RetL (P : Program) : List ResultVar → List Ent → List AV → Prop
  | nil : RetL P [] [] []
  | tmp (t : Nat) (av : AV) {rs : List ResultVar} {es : List Ent} {avs : List AV} (h : RetL P rs es avs) : RetL P (.tmp t :: rs) ((t, av) :: es) (av :: avs)
  | cellA (t : Nat) (T T' : TypeId) (cs : List AV) {td : TypeDesc} {rs : List ResultVar} {es : List Ent} {avs : List AV} (hT : P.underlying T = some td) (ha : isAggD td = true) (hs : (P.info? T).map (·.size) = some cs.length) (h : RetL P rs es avs) :
      RetL P (.cell t T :: rs) ((t, .box T' cs) :: es) (.agg cs :: avs)
  | cell1 (t : Nat) (T T' : TypeId) (c : AV) {td : TypeDesc} {rs : List ResultVar} {es : List Ent} {avs : List AV} (hT : P.underlying T = some td) (ha : isAggD td = false) (h : RetL P rs es avs) :
      RetL P (.cell t T :: rs) ((t, .box T' [c]) :: es) (c :: avs)
  | cellR (t : Nat) (T T' : TypeId) (vs : List Value) {td : TypeDesc} {rs : List ResultVar} {es : List Ent} {avs : List AV} (hT : P.underlying T = some td) (ha : isAggD td = true) (hs : (P.info? T).map (·.size) = some vs.length) (h : RetL P rs es avs) :
      RetL P (.cell t T :: rs) ((t, .arr T' vs) :: es) (.v (.agg vs.toArray) :: avs)

def retOne (tmps : Array Value) : ResultVar → Sem Value
  | .tmp t => pure (tmps.getD t undef)
  | .cell a t => do loadVar t (← asAddr (tmps.getD a undef))

theorem run_ret {g : Gh} {V : Loc → Value} {w : World} {a : Act} (hv : ∀ t, V (.slot t) = a.tmps.getD t undef) {rs : List ResultVar} {es : List Ent} {avs : List AV} (h : RetL P rs es avs) :
    ∀ {o : List Nat}, Es g V w es o → ∃ (xs : List Value) (o' o'' : List Nat), Rs g V w avs xs o' ∧ o.Perm (o' ++ o'') ∧
      (rs.mapM (retOne a.tmps)).run P w = .ok xs w := by
  induction h with
  | nil => intro o ho; simp only [Es] at ho; subst ho; exact ⟨[], [], [], by simp [Rs], by simp, by simp⟩
  | tmp t av h ih =>
    intro o ho
    simp only [Es] at ho
    obtain ⟨o1, o2, rfl, ⟨hr, _⟩, h2⟩ := ho
    obtain ⟨xs, o', o'', h3, h4, h5⟩ := ih h2
    refine ⟨_ :: xs, o1 ++ o', o'', by simp only [Rs]; exact ⟨_, xs, o1, o', rfl, rfl, hr, h3⟩, by rw [List.append_assoc]; exact h4.append_left o1, ?_⟩
    simp [List.mapM_cons, h5, retOne, hv]
  | cellA t T T' cs hT ha hs h ih =>
    intro o ho
    simp only [Es] at ho
    obtain ⟨o1, o2, rfl, ⟨hr, _⟩, h2⟩ := ho
    obtain ⟨xs, o', o'', h3, h4, h5⟩ := ih h2
    simp only [R] at hr
    obtain ⟨b, ys, os, hx, rfl, hh, hrs⟩ := hr
    refine ⟨.agg ys.toArray :: xs, os ++ o', b :: o'', ?_, ?_, ?_⟩
    · simp only [Rs, R]; exact ⟨_, xs, os, o', rfl, rfl, ⟨ys, rfl, hrs⟩, h3⟩
    · rw [List.perm_iff_count] at h4 ⊢
      intro c
      have := h4 c
      simp only [List.count_append, List.count_cons] at this ⊢
      omega
    · have hl := run_loadA (P := P) (w := w) (a := ⟨b, 0, none⟩) (xs := ys) hT ha hs (Rs_length hrs) (fun j v hj => by rw [add_flat, cell_of_row w b _ _ T' (0, 0) hh]; simpa using hj)
      have : a.tmps.getD t undef = .pointer (some ⟨b, 0, none⟩) := by rw [← hv]; exact hx
      have h6 : (retOne a.tmps (.cell t T)).run P w = .ok (.agg ys.toArray) w := by simp only [retOne, this, asAddr]; simpa using hl
      simp [List.mapM_cons, h6, h5]
  | cell1 t T T' c hT ha h ih =>
    intro o ho
    simp only [Es] at ho
    obtain ⟨o1, o2, rfl, ⟨hr, _⟩, h2⟩ := ho
    obtain ⟨xs, o', o'', h3, h4, h5⟩ := ih h2
    simp only [R] at hr
    obtain ⟨b, ys, os, hx, rfl, hh, hrs⟩ := hr
    simp only [Rs] at hrs
    obtain ⟨y, ys', p1, p2, rfl, rfl, hr1, rfl, rfl⟩ := hrs
    refine ⟨y :: xs, p1 ++ o', b :: o'', by simp only [Rs]; exact ⟨y, xs, p1, o', rfl, rfl, hr1, h3⟩, ?_, ?_⟩
    · rw [List.perm_iff_count] at h4 ⊢
      intro c
      have := h4 c
      simp only [List.count_append, List.count_cons, List.append_nil] at this ⊢
      omega
    · have hl := run_load1 (P := P) (w := w) (a := ⟨b, 0, none⟩) (v := y) hT ha (by rw [cell_of_row w b _ _ T' (0, 0) hh]; simp)
      have : a.tmps.getD t undef = .pointer (some ⟨b, 0, none⟩) := by rw [← hv]; exact hx
      have h6 : (retOne a.tmps (.cell t T)).run P w = .ok y w := by simp only [retOne, this, asAddr]; simpa using hl
      simp [List.mapM_cons, h6, h5]
  | cellR t T T' vs hT ha hs h ih =>
    intro o ho
    simp only [Es] at ho
    obtain ⟨o1, o2, rfl, ⟨hr, _⟩, h2⟩ := ho
    obtain ⟨xs, o', o'', h3, h4, h5⟩ := ih h2
    simp only [R] at hr
    obtain ⟨b, hx, rfl, hh⟩ := hr
    refine ⟨.agg vs.toArray :: xs, o', b :: o'', by simp only [Rs, R]; exact ⟨_, xs, [], o', rfl, by simp, ⟨rfl, rfl⟩, h3⟩, ?_, ?_⟩
    · rw [List.perm_iff_count] at h4 ⊢
      intro c
      have := h4 c
      simp only [List.count_append, List.count_cons, List.count_nil] at this ⊢
      omega
    · have hl := run_loadA (P := P) (w := w) (a := ⟨b, 0, none⟩) (xs := vs) hT ha hs rfl (fun j v hj => by rw [add_flat, cell_of_row w b _ _ T' (0, 0) hh]; simpa using hj)
      have : a.tmps.getD t undef = .pointer (some ⟨b, 0, none⟩) := by rw [← hv]; exact hx
      have h6 : (retOne a.tmps (.cell t T)).run P w = .ok (.agg vs.toArray) w := by simp only [retOne, this, asAddr]; simpa using hl
      simp [List.mapM_cons, h6, h5]

def resAV : List AV → AV
  | [av] => av
  | avs => .tup avs

/-- The post of a function's body. -/
def FnQ (P : Program) (fn : Func) (Imm Im : Nat → Prop) (w : World) (res : AV) : Exit → Act → World → Prop := bodyPost P fn (Ans Imm Im w res)

/-- At the end: the answers. -/
theorem ret_ok {fn : Func} {g0 g : Gh} {es : List Ent} {avs : List AV} {a : Act} {w : World} {Imm : Nat → Prop} (hio : g0.io = []) (hI0 : g0.Imm = Imm) (hle : g0.le g) (hret : RetL P fn.results.toList es avs) (hcl : closeds avs = true) (hs : Sat g es a w) :
    FnQ P fn Imm g0.Im g0.w0 (resAV avs) .ret a w ∧ FnQ P fn Imm g0.Im g0.w0 (resAV avs) .normal a w := by
  have key : a.defers = [] ∧ ∃ v, (results fn a.tmps).run P w = .ok v w ∧ Ans Imm g0.Im g0.w0 (resAV avs) (.returned v) w := by
    obtain ⟨V, o, hst, hes⟩ := hs
    obtain ⟨xs, o', o'', hR, hperm, hrun⟩ := run_ret hst.val hret hes
    have hnd : o'.Nodup := (List.nodup_append.1 (hperm.nodup_iff.1 hst.nodup)).1
    have hsub : ∀ b ∈ o', b ∈ o := fun b hb => hperm.mem_iff.2 (by simp [hb])
    refine ⟨hst.defers, (if h : xs.length = 1 then xs.getD 0 undef else .tuple xs.toArray), ?_, ?_⟩
    · have hres : results fn a.tmps = (do let vs ← fn.results.mapM (retOne a.tmps); pure (if h : vs.size = 1 then vs[0] else .tuple vs)) := by
        unfold results
        congr 1
      rw [hres, Array.mapM_eq_mapM_toList]
      simp only [Sem.run_bind, Sem.run_map, hrun, Result.andThen_ok]
      by_cases h : xs.length = 1
      · simp [h]
      · simp [h]
    · refine ⟨_, rfl, by have := hst.chg; rw [hle.w0, hle.io, hio] at this; exact this, g.Imm, o', by rw [← hI0]; exact hle.Imm, ?_, ?_, hnd, ?_⟩
      · intro b hb
        have hnw := hle.new b hb
        rw [hio] at hnw
        rcases hnw with h | h | h
        · exact .inl (hI0 ▸ h)
        · exact .inr ⟨h, hst.imm b (.inl hb)⟩
        · exact absurd h (by simp)
      · have hlen := Rs_length hR
        have hM : ∀ b, g.Im b → (gh0 g0.w0 g.Imm g0.Im).Im b := fun b hb => by rw [hle.Im] at hb; exact hb
        have hR' := Rs_closed (g := g) (g' := gh0 g0.w0 g.Imm g0.Im) (V' := V0) (fun _ h => h) avs xs o' hcl (.inl hM) hR
        unfold resAV
        split
        · rename_i av
          simp only [Rs] at hR'
          obtain ⟨x, xs', o1, o2, rfl, rfl, h1, rfl, rfl⟩ := hR'
          simpa using h1
        · rename_i hne
          have : xs.length ≠ 1 := by
            intro h1
            rw [hlen] at h1
            match avs, h1 with
            | [av], _ => exact hne av rfl
          simp only [this, dite_false, R]
          exact ⟨xs, rfl, hR'⟩
      · intro b hb
        have := hst.own b (hsub b hb)
        rw [hle.w0, hle.io, hio] at this
        exact ⟨this.2.1.resolve_right (by simp), this.1, fun h => this.2.2 (.inl h)⟩
  exact ⟨key, key⟩
end
end Go.Abs
