/-
  Calls that only read behind a pointer, rows too: the rows' headers are pinned, the rows are lent.
-/
import Derived.Test.YtbioodcjmceefaaBF
import Derived.Test.YtbioodcjmceefaaBB
namespace Go.Abs
set_option linter.unusedVariables false
def pinA (v : Value) (av : AV) : HidT where
  P I M x o w := x = v ∧ o = [] ∧ R (gh0 w I M) V0 w av x []
  stab I M I' M' x o w w' hI hM hw h := by
    obtain ⟨h1, rfl, h3⟩ := h
    exact ⟨h1, rfl, R_stab (g := gh0 w I M) (g' := gh0 w' I' M') (W := []) hI hM (fun _ _ => rfl) av x [] (clr_nil av) (fun b hb => hw b (hb.imp (fun h => by simp at h) id)) h3⟩
def prL (u : Nat → Value) : Nat → List AV → List AV
  | _, [] => []
  | i, .v x :: cs => .v x :: prL u (i + 1) cs
  | i, .fl _ z xs :: cs => .hid (pinA (u i) (.fl .shr z xs)) :: prL u (i + 1) cs
  | i, .fr _ _ z xs :: cs => .hid (pinA (u i) (.fr .shr true z xs)) :: prL u (i + 1) cs
  | i, _ :: cs => .v (u i) :: prL u (i + 1) cs
theorem prL_R {u : Nat → Value} {g : Gh} {w : World} {V : Loc → Value} {M : Nat → Prop} : ∀ {cs : List AV} {xs : List Value} {o : List Nat} (i : Nat), Rs g V w cs xs o → (∀ b ∈ o, M b) → (∀ b, g.Im b → M b) → (∀ j x, xs[j]? = some x → u (i + j) = x) → Rs (gh0 w g.Imm M) V0 w (prL u i cs) xs []
  | [], xs, o, i, h, _, _, _ => by simp only [Rs, prL] at *; exact ⟨h.1, trivial⟩
  | c :: cs, xs, o, i, h, hM, hg, hu => by
    simp only [Rs] at h
    obtain ⟨x, xs', o1, o2, rfl, rfl, h1, h2⟩ := h
    have hx : u i = x := by simpa using hu 0 x rfl
    have ih := prL_R (u := u) (M := M) (i + 1) h2 (fun b hb => hM b (by simp [hb])) hg (fun j y hy => by have := hu (j + 1) y (by simpa using hy); rwa [show i + 1 + j = i + (j + 1) by omega])
    cases c with
    | v y => simp only [R] at h1; simp only [prL, Rs, R]; exact ⟨x, xs', [], [], rfl, rfl, ⟨h1.1, rfl⟩, ih⟩
    | fl m z ys =>
      simp only [prL, Rs]
      refine ⟨x, xs', [], [], rfl, rfl, ?_, ih⟩
      simp only [R]
      exact ⟨hx.symm, rfl, fl_shr (g := g) (g' := gh0 w g.Imm M) (V' := V0) (oN := o1) rfl (fun b hb => hb.elim (hg b) (fun h => hM b (by simp [h]))) (fun b hb => hb) h1⟩
    | fr m s z ys =>
      simp only [prL, Rs]
      refine ⟨x, xs', [], [], rfl, rfl, ?_, ih⟩
      simp only [R]
      exact ⟨hx.symm, rfl, fr_shr (g := g) (g' := gh0 w g.Imm M) (V' := V0) (oN := o1) rfl (fun b hb => hb.elim (hg b) (fun h => hM b (by simp [h]))) (fun b hb => hb) h1⟩
    | _ => simp only [prL, Rs, R]; exact ⟨x, xs', [], [], rfl, rfl, ⟨hx.symm, rfl⟩, ih⟩
theorem prL_eq {u : Nat → Value} {g g' : Gh} {w w' : World} : ∀ {cs : List AV} {xs ys : List Value} {o o' : List Nat} (i : Nat), Rs g V0 w (prL u i cs) xs o → Rs g' V0 w' (prL u i cs) ys o' → ys = xs ∧ o' = []
  | [], xs, ys, o, o', i, h, h' => by simp only [Rs, prL] at *; exact ⟨h'.1.trans h.1.symm, h'.2⟩
  | c :: cs, xs, ys, o, o', i, h, h' => by
    have key : ∀ (a : AV), (∀ (g : Gh) (w : World) (x : Value) (o : List Nat), R g V0 w a x o → x = (match a with | .v y => y | .hid J => x | _ => undef) ∧ True) → True := fun _ _ => trivial
    have hone : ∃ a v, prL u i (c :: cs) = a :: prL u (i + 1) cs ∧ ∀ (g : Gh) (w : World) (x : Value) (o : List Nat), R g V0 w a x o → x = v ∧ o = [] := by
      cases c with
      | v y => exact ⟨_, y, rfl, fun g w x o h => by simpa only [R] using h⟩
      | fl m z xs => exact ⟨_, u i, rfl, fun g w x o h => by simp only [R] at h; exact ⟨h.1, h.2.1⟩⟩
      | fr m s z xs => exact ⟨_, u i, rfl, fun g w x o h => by simp only [R] at h; exact ⟨h.1, h.2.1⟩⟩
      | _ => exact ⟨_, u i, rfl, fun g w x o h => by simpa only [R] using h⟩
    obtain ⟨a, v, e, ha⟩ := hone
    rw [e] at h h'
    simp only [Rs] at h h'
    obtain ⟨x, xs', o1, o2, rfl, rfl, h1, h2⟩ := h
    obtain ⟨y, ys', p1, p2, rfl, rfl, h3, h4⟩ := h'
    obtain ⟨rfl, rfl⟩ := prL_eq (i + 1) h2 h4
    obtain ⟨rfl, _⟩ := ha _ _ _ _ h1
    obtain ⟨rfl, rfl⟩ := ha _ _ _ _ h3
    exact ⟨rfl, rfl⟩
theorem look_Rn {g : Gh} {V : Loc → Value} {w : World} : ∀ {N : List Ent} {o : List Nat} (t : Nat), Es g V w N o → o.Nodup → ∃ o', (∀ b ∈ o', b ∈ o) ∧ o'.Nodup ∧ R g V w (look N t) (V (.slot t)) o'
  | [], o, t, _, _ => ⟨[], by simp, by simp, by simp [look, R]⟩
  | (s, av) :: N, o, t, h, hn => by
    simp only [Es] at h
    obtain ⟨o1, o2, rfl, h1, h2⟩ := h
    have hn' := List.nodup_append.1 hn
    simp only [look]
    cases hs : Nat.beq s t with
    | true =>
      obtain rfl : s = t := Nat.eq_of_beq_eq_true hs
      exact ⟨o1, fun b hb => by simp [hb], hn'.1, by simpa using h1.1⟩
    | false =>
      obtain ⟨o', h3, h4, h5⟩ := look_Rn t h2 hn'.2.1
      exact ⟨o', fun b hb => by simp [h3 b hb], h4, by simpa using h5⟩
section
variable {P : Program} {ty : TypeId} {pos : String} {aft : Array Edge} {gd : Option (Nat × Bool)}
theorem op_load_pa (N : List Ent) (d : Nat) {T : TypeId} {td : TypeDesc} (x : Operand) {T' : TypeId} {cs : List AV} (t off : Nat) (v : Value) (av : AV) (hT : P.underlying T = some td) (ha : isAggD td = false)
    (hx : dupOp N x = .ptr t off) (hl : look N t = .box T' cs) (ho : cs[off]? = some (.hid (pinA v av))) (hcl : closed av = true) (hc2 : clr [.slot d] av = true) (hb : noBox av = true) :
    LOp P ⟨some d, .load T x, ty, pos, aft, gd⟩ N [] [(d, av)] [.slot d] := by
  refine LOp.value rfl hc2 hb fun g V oN a w hp => ?_
  have hR := dupOp_R hp.val hp.esN x
  rw [hx] at hR
  simp only [R] at hR
  obtain ⟨b, h1, h2, _⟩ := hR
  obtain ⟨b', xs, os, h3, hh, hrs, hnm, _⟩ := box_look hp.esN hl
  rw [h1] at h3; cases h3
  have hlen := Rs_length hrs
  have hoff : off < cs.length := (List.getElem?_eq_some_iff.1 ho).1
  have hlt : off < xs.length := by omega
  obtain ⟨o2, _, h4⟩ := Rs_get off hrs hoff
  have hget : xs[off]? = some (xs.getD off undef) := by simp [hlt]
  rw [show cs.getD off .any = .hid (pinA v av) by rw [List.getD_eq_getElem?_getD, ho]; rfl] at h4
  simp only [R] at h4
  obtain ⟨_, _, h5⟩ := h4
  refine ⟨xs.getD off undef, ?_, ?_⟩
  · have hc : w.cell? ⟨b, off, none⟩ = some (xs.getD off undef) := by rw [cell_of_row w b off _ T' (0, 0) hh]; simpa using hget
    simp [execOp, Instr.loadAt, h2, Instr.sureAddr, run_load1 hT ha hc]
  · exact R_closed (g := gh0 w g.Imm g.Im) (g' := g) (fun _ h => h) av _ [] hcl (.inl fun _ h => h) h5
theorem op_callNR (N : List Ent) (d t : Nat) (f : FuncId) {cal x : Operand} {ys : List Operand} {args : Array Operand} {ats : Array TypeId} {T : TypeId} {cs : List AV} (vs : List Value) (res : AV) (hcal : rd N cal = .v (.func (.func f) #[] #[])) (hrun : ∀ args w, (callFunc f args).run P w = .ok (.enter f args) w)
    (hargs : (x :: ys).toArray = args) (hx : isArg N x t = true) (hl : look N t = .box T cs) (hav : ys.map (rd N) = vs.map AV.v)
    (hf : ∀ u : Nat → Value, FnP P f (.box T (prL u 0 cs) :: vs.map AV.v) [.box T (prL u 0 cs)] res) (hcl : closed res = true) (hclr : clr [.slot d] res = true) (hsh : noShr res = true) :
    LOp P ⟨some d, .call ⟨.value cal, args, ats⟩, ty, pos, aft, gd⟩ N [] [(d, res)] [.slot d] := by
  subst hargs
  refine LOp.fresh rfl hclr fun g V oN a w hp => ?_
  have hcv := rd_v hp.val hp.esN hcal
  have hr : (execOp a.eval ⟨some d, .call ⟨.value cal, (x :: ys).toArray, ats⟩, ty, pos, aft, gd⟩).run P w = .ok (.enter f ((x :: ys).toArray.map a.eval)) w := by
    simp [execOp, resolve, hcv, Deferred.ofValue, invoke, hrun]
  have hxe : a.eval x = V (.slot t) := isArg_eval hp.val hp.esN hx
  have hndN := (List.nodup_append.1 hp.nodup).1
  obtain ⟨o', hs, hno, hE⟩ := look_Rn t hp.esN hndN
  rw [hl] at hE
  simp only [R] at hE
  obtain ⟨b, xs0, os, hpt, rfl, hh, hrs⟩ := hE
  have hbo := hp.own b (by simp [hs b (by simp)])
  have hpin := prL_R (u := fun i => xs0.getD i undef) (M := fun c => g.Im c ∨ c ∈ os) 0 hrs (fun _ h => .inr h) (fun _ h => .inl h) (fun j x hx => by simp [hx])
  have hf := hf (fun i => xs0.getD i undef)
  have hR : Rs (gh0 w g.Imm (fun c => g.Im c ∨ c ∈ os)) V0 w (.box T (prL (fun i => xs0.getD i undef) 0 cs) :: vs.map AV.v) ((x :: ys).map a.eval) [b] := by
    rw [List.map_cons, evals_v hp.val hp.esN hav, hxe]
    simp only [Rs]
    refine ⟨_, _, [b], [], rfl, rfl, ?_, Rs_lit vs⟩
    simp only [R]
    exact ⟨b, xs0, [], hpt, rfl, hh, hpin⟩
  have hc := hf g.Imm (fun c => g.Im c ∨ c ∈ os) w _ [b] (fun c hc => by
    rcases hc with hc | hc | hc
    · exact hp.imm c (.inl hc)
    · exact hp.imm c (.inr hc)
    · exact (hp.own c (by simp [hs c (by simp [hc])])).1) hR (by simp) (fun c hc => by
    obtain rfl : c = b := by simpa using hc
    refine ⟨hbo.1, ?_⟩
    rintro (h | h | h)
    · exact hbo.2 (.inl h)
    · exact hbo.2 (.inr h)
    · exact (List.nodup_cons.1 hno).1 h)
  have ea : ((x :: ys).map a.eval).toArray = (x :: ys).toArray.map a.eval := by simp
  rw [ea] at hc
  refine Yl.call hr (hc.mono ?_)
  rintro e' w' ⟨y, rfl, hchg, Imm', o, hI, hnew, hRr, hndo, hfr⟩
  have htake : ((x :: ys).map a.eval).take 1 = [V (.slot t)] := by simp [hxe]
  simp only [List.length_cons, List.length_nil, Nat.zero_add, htake, Rs] at hRr
  obtain ⟨y', vals, o1, o2, hyv, rfl, hR1, y2, vals2, o3, o4, hy2, rfl, hR2, hv2, rfl⟩ := hRr
  obtain ⟨rfl, rfl⟩ := List.cons.inj hyv
  obtain ⟨rfl, rfl⟩ := List.cons.inj hy2
  simp only [R] at hR2
  obtain ⟨b2, xs2, os2, hpt2, rfl, hh2, hrs2⟩ := hR2
  rw [hpt] at hpt2
  cases hpt2
  obtain ⟨rfl, rfl⟩ := prL_eq 0 hpin hrs2
  have hsame : w'.heap[b]? = w.heap[b]? := by rw [hh, hh2]
  have hchg' : Chg [] w w' := ⟨hchg.os, hchg.tape, hchg.output, hchg.size, fun k hk _ => by
    by_cases hkb : k = b
    · rw [hkb]; exact hsame
    · exact hchg.block k hk (by simpa using hkb)⟩
  have hbI : ¬ Imm' b := (hfr b (by simp)).2.2
  have hnew' : ∀ c, Imm' c → g.Imm c ∨ (w.heap.size ≤ c ∧ c < w'.heap.size) := by
    intro c hc'
    rcases hnew c hc' with h | h | h
    · exact .inl h
    · exact absurd hc' (by rw [show c = b by simpa using h]; exact hbI)
    · exact .inr h
  refine ⟨y, rfl, hchg', { g with Imm := Imm' }, o1, ⟨rfl, rfl, rfl, rfl, rfl, hI, fun c hc' => ?_⟩, hnew', ?_, (List.nodup_append.1 hndo).1, ?_⟩
  · rcases hnew' c hc' with h | h
    · exact .inl h
    · exact .inr (.inl (Nat.le_trans hp.base h.1))
  · exact R_closed (g := gh0 w Imm' (fun c => g.Im c ∨ c ∈ os)) (g' := { g with Imm := Imm' }) (fun _ h => h) res y o1 hcl (.inr hsh) hR1
  · intro c hc'
    have h1 := hfr c (by simp [hc'])
    refine ⟨?_, h1.2.1, h1.2.2⟩
    rcases h1.1 with h | h
    · have : c = b := by simpa using h
      subst this
      exact absurd rfl ((List.nodup_append.1 hndo).2.2 c hc' c (by simp))
    · exact h
end
end Go.Abs
