/-
  The logic of places: texts AW AX AY AZ AN A0.
-/
import Derived.Lib.FrozenHead
import Derived.OpenShut
import Derived.FnData
import Derived.Lib.UnsafeStr
import Derived.Lib.Builder
import Derived.Lib.Repeat
import Derived.Lib.Join
import Derived.Lib.Atoi
import Derived.Lib.Bytealg
import Derived.Lib.IndexAny
import Derived.HandedShaped
import Derived.Lib.ConvBytes
import Derived.Below
import Derived.Lib.LaidTab
import Derived.Lib.ItoaNum
import Derived.Sort.Grow
import Derived.Test.YtepkcpjfogjfhaaAR
section
/-
  Ranges over a function: what yields, what ranges, the rounds; told by a step of Lean on the state that the rounds leave.
-/
namespace Go.Abs
mutual
/-- Holds no memory of its own. -/
def noOwn : AV → Bool
  | .fl (.own _) _ _ => false
  | .fr (.own _) _ _ _ => false
  | .box .. => false
  | .arr .. => false
  | .obox .. => false
  | .cloB .. => false
  | .inv _ => false
  | .mkr .. => false
  | .hid _ => false
  | .agg cs => noOwns cs
  | .tup cs => noOwns cs
  | _ => true
def noOwns : List AV → Bool
  | [] => true
  | c :: cs => noOwn c && noOwns cs
end
mutual
theorem noOwn_nil {g : Gh} {V : Loc → Value} {w : World} : ∀ (av : AV) (x : Value) (o : List Nat), noOwn av = true → R g V w av x o → o = []
  | .any, x, o, _, h => by simp only [R] at h; exact h
  | .v y, x, o, _, h => by simp only [R] at h; exact h.2
  | .fl (.own _) z xs, x, o, hn, h => by simp [noOwn] at hn
  | .fl .ro z xs, x, o, _, h => by simp only [R, modeOk] at h; obtain ⟨a, n, c, _, _, _, _, h, _⟩ := h; exact h
  | .fl .shr z xs, x, o, _, h => by simp only [R, modeOk] at h; obtain ⟨a, n, c, _, _, _, _, h, _⟩ := h; exact h
  | .agg cs, x, o, hn, h => by simp only [R, noOwn] at *; obtain ⟨xs, _, h⟩ := h; exact noOwns_nil cs xs o hn h
  | .tup cs, x, o, hn, h => by simp only [R, noOwn] at *; obtain ⟨xs, _, h⟩ := h; exact noOwns_nil cs xs o hn h
  | .box T cs, x, o, hn, h => by simp [noOwn] at hn
  | .same l, x, o, _, h => by simp only [R] at h; exact h.2
  | .ptr t i, x, o, _, h => by simp only [R] at h; obtain ⟨b, _, _, h⟩ := h; exact h
  | .eref l k, x, o, _, h => by simp only [R] at h; obtain ⟨a, n, c, _, _, h⟩ := h; exact h
  | .arr T vs, x, o, hn, h => by simp [noOwn] at hn
  | .fr (.own _) s z cs, x, o, hn, h => by simp [noOwn] at hn
  | .fr .ro s z cs, x, o, _, h => by simp only [R, modeOk] at h; obtain ⟨vs, a, n, c, _, _, _, _, ⟨h, _⟩, _⟩ := h; exact h
  | .fr .shr s z cs, x, o, _, h => by simp only [R, modeOk] at h; obtain ⟨vs, a, n, c, _, _, _, _, ⟨h, _⟩, _⟩ := h; exact h
  | .glob gl, x, o, _, h => by simp only [R] at h; exact h.2
  | .obox p T cs, x, o, hn, h => by simp [noOwn] at hn
  | .clo f ts, x, o, _, h => by simp only [R] at h; exact h.2
  | .cut l k, x, o, _, h => by simp only [R] at h; obtain ⟨a, n, c, _, _, _, _, h⟩ := h; exact h
  | .cloB f cs, x, o, hn, h => by simp [noOwn] at hn
  | .inv J, x, o, hn, h => by simp [noOwn] at hn
  | .mkr E xs, x, o, hn, h => by simp [noOwn] at hn
  | .hid J, x, o, hn, h => by simp [noOwn] at hn
  | .asl t i, x, o, _, h => by simp only [R] at h; obtain ⟨b, _, _, h⟩ := h; exact h
theorem noOwns_nil {g : Gh} {V : Loc → Value} {w : World} : ∀ (cs : List AV) (xs : List Value) (o : List Nat), noOwns cs = true → Rs g V w cs xs o → o = []
  | [], xs, o, _, h => by simp only [Rs] at h; exact h.2
  | c :: cs, xs, o, hn, h => by
    simp only [Rs, noOwns, Bool.and_eq_true] at *
    obtain ⟨x, xs', o1, o2, _, rfl, h1, h2⟩ := h
    rw [noOwn_nil c x o1 hn.1 h1, noOwns_nil cs xs' o2 hn.2 h2]; rfl
end
theorem Es_noOwn {g : Gh} {V : Loc → Value} {w : World} : ∀ (es : List Ent) (o : List Nat), es.all (fun e => noOwn e.2) = true → Es g V w es o → o = []
  | [], o, _, h => h
  | e :: es, o, hn, h => by
    simp only [List.all_cons, Bool.and_eq_true] at hn
    obtain ⟨o1, o2, rfl, ⟨h1, _⟩, h2⟩ := h
    rw [noOwn_nil _ _ _ hn.1 h1, Es_noOwn es o2 hn.2 h2]; rfl
section
variable {P : Program} {Q : Exit → Act → World → Prop} {g0 : Gh} {rnd : Option Nat}
end
section
variable {P : Program} {ty : TypeId} {pos : String} {aft : Array Edge} {gd : Option (Nat × Bool)}
theorem op_callS (N : List Ent) (d : Nat) (f : FuncId) {cal : Operand} {args : Array Operand} {ats : Array TypeId} (avs : List AV) (res : AV) (hcal : rd N cal = .v (.func (.func f) #[] #[])) (hrun : ∀ args w, (callFunc f args).run P w = .ok (.enter f args) w)
    (hav : args.toList.map (argv N) = avs) (hno : N.all (fun e => noOwn e.2) = true) (hf : FnOK P f avs res) (hcl : closed res = true) :
    LOp P ⟨some d, .call ⟨.value cal, args, ats⟩, ty, pos, aft, gd⟩ N [] [(d, res)] [.slot d] := by
  refine LOp.fresh rfl (clr_of_closed _ _ hcl) fun g V oN a w hp => ?_
  have hN := Es_noOwn N oN hno hp.esN
  subst hN
  have hcv := rd_v hp.val hp.esN hcal
  have hr : (execOp a.eval ⟨some d, .call ⟨.value cal, args, ats⟩, ty, pos, aft, gd⟩).run P w = .ok (.enter f (args.map a.eval)) w := by
    simp [execOp, resolve, hcv, Deferred.ofValue, invoke, hrun]
  have hargs : Rs (gh0 w g.Imm g.Im) V0 w avs (args.toList.map a.eval) [] := by
    rw [← hav]
    exact argvs_R (g := g) (g' := gh0 w g.Imm g.Im) (oN := []) rfl (fun b hb => hb.resolve_right (by simp)) hp.val hp.esN _
  have hc := hf g.Imm g.Im w _ (fun b hb => hp.imm b hb) hargs
  have ea : (args.toList.map a.eval).toArray = args.map a.eval := by rw [← Array.toList_map]
  rw [ea] at hc
  refine Yl.call hr (hc.mono ?_)
  rintro e w' ⟨x, rfl, hchg, Imm', o, hI, hnew, hR, hnd, hfr⟩
  refine ⟨x, rfl, hchg, { g with Imm := fun b => Imm' b }, o, ⟨rfl, rfl, rfl, rfl, rfl, hI, fun b hb => ?_⟩, hnew, ?_, hnd, hfr⟩
  · rcases hnew b hb with h | h
    · exact .inl h
    · exact .inr (.inl (Nat.le_trans hp.base h.1))
  · exact R_closed (g := gh0 w Imm' g.Im) (g' := { g with Imm := fun b => Imm' b }) (fun _ h => h) res x o hcl (.inl fun _ h => h) hR
end
end Go.Abs
end
section
/-
  The statement 'for x := range f': its rule.
-/
namespace Go.Abs
structure RdT where
  l : Nat
  D : Nat
  fn : FuncId
  tm : Array Value
  ps : Array Tmp
  asg : Code
  bod : Code
def RdT.rc (k : RdT) (st : LoopState) (pe : Option Code) : Loop := { state := st, pending := pe, fn := k.fn, tmps := k.tm, params := k.ps, assign := k.asg, body := k.bod, defers := k.D }
def recI (l D : Nat) (rc : Loop) : InvT where
  P := fun _ _ o w => o = [l, D] ∧ l ≠ D ∧ w.heap[l]? = some (.loop rc) ∧ w.heap[D]? = some (.deferred (some []))
  stab := fun I M I' M' o w w' _ _ hw h => by
    obtain ⟨rfl, h1, h2, h3⟩ := h
    exact ⟨rfl, h1, (hw l (.inl (by simp))).trans h2, (hw D (.inl (by simp))).trans h3⟩
theorem clrEnt_nil (e : Ent) : clrEnt [] e = true := by
  simp only [clrEnt, hit, List.any_nil, List.all_nil, Bool.not_false, Bool.true_and, Bool.and_true, Bool.or_true]; exact clr_nil e.2
def calI (es : List Ent) (tm : Array Value) (l D : Nat) (rc : Loop) : InvT where
  P := fun Imm Im o w => ∃ V o1, (∀ t ∈ es.map (·.1), V (.slot t) = tm.getD t undef) ∧ o = o1 ++ [l, D] ∧ Es (gh0 w Imm Im) V w es o1 ∧ l ≠ D ∧ w.heap[l]? = some (.loop rc) ∧ w.heap[D]? = some (.deferred (some []))
  stab := fun I M I' M' o w w' hI hM hw h => by
    obtain ⟨V, o1, h1, rfl, h2, h3, h4, h5⟩ := h
    refine ⟨V, o1, h1, rfl, ?_, h3, (hw l (.inl (by simp))).trans h4, (hw D (.inl (by simp))).trans h5⟩
    exact Es_stab (W := []) (g := gh0 w I M) (g' := gh0 w' I' M') hI hM (fun _ _ => rfl) es o1 (fun e _ => clrEnt_nil e) (fun b hb => hw b (by
      rcases hb with hb | hb
      · exact .inl (by simp [hb])
      · exact .inr hb)) h2
def RdT.ready (k : RdT) : InvT := recI k.l k.D (k.rc .ready none)
def RdT.J {S O : Type} (k : RdT) (I : S → List Ent) (E : O → List Ent) : S ⊕ O → InvT
  | .inl s => calI (I s) k.tm k.l k.D (k.rc .ready none)
  | .inr o => calI (E o) k.tm k.l k.D (k.rc .done (some .ret))
section
variable {P : Program} {Q : Exit → Act → World → Prop} {g0 : Gh}
theorem Sat.rec {g : Gh} {es : List Ent} {j : Nat} {l D : Nat} {rc : Loop} (rc' : Loop) {a : Act} {w : World} (h : Sat g (es ++ [(j, .inv (recI l D rc))]) a w) :
    w.heap[l]? = some (.loop rc) ∧ Sat g (es ++ [(j, .inv (recI l D rc'))]) a (w.putObj l (.loop rc')) := by
  obtain ⟨V, o, hst, hes⟩ := h
  obtain ⟨o1, o2, rfl, h1, o3, o4, rfl, ⟨h2, _⟩, rfl⟩ := Es_append.1 hes
  simp only [R] at h2
  obtain ⟨rfl, hne, hl, hD⟩ := h2
  simp only [List.append_nil] at hst
  have hlt : l < w.heap.size := (Array.getElem?_eq_some_iff.1 hl).1
  have hown := hst.own l (by simp)
  have hnl : l ∉ o1 := fun hm => (List.nodup_append.1 hst.nodup).2.2 l hm l (by simp) rfl
  refine ⟨hl, V, o1 ++ ([l, D] ++ []), ⟨hst.val, hst.size, hst.defers, hst.dnd, fun E hE => ?_, by simpa using hst.nodup, fun b hb => ?_, fun b hb => by simpa using hst.imm b hb, ?_⟩, Es_append.2 ⟨o1, _, rfl, ?_, [l, D], [], rfl, ⟨?_, trivial⟩, rfl⟩⟩
  · obtain ⟨k1, k2, k3⟩ := hst.marks E hE
    refine ⟨(World.putObj_heap_other (fun e => k2 (by simp [e]))).trans k1, by simpa using k2, k3⟩
  · have := hst.own b (by simpa using hb)
    exact ⟨by simpa using this.1, this.2⟩
  · refine hst.chg.trans' (U := [l]) ⟨rfl, rfl, rfl, by simp, fun k _ hk => World.putObj_heap_other (by simpa using hk)⟩ (fun x hx => ?_)
    simp at hx; subst hx
    exact hown.2.1.symm
  · refine Es_stab (W := []) (fun _ h => h) (fun _ h => h) (fun _ _ => rfl) es o1 (fun e _ => clrEnt_nil e) (fun b hb => World.putObj_heap_other fun e => ?_) h1
    subst e
    rcases hb with hb | hb
    · exact hnl hb
    · exact hown.2.2 hb
  · simp only [R]
    exact ⟨rfl, hne, World.putObj_heap_same hlt, (World.putObj_heap_other (Ne.symm hne)).trans hD⟩
end
end Go.Abs
end
section
/-
  The statement 'for x := range f', after a step told in Lean.
-/
namespace Go.Abs
theorem heap_alloc (w : World) (o : Obj) (k : Nat) (hk : k < w.heap.size) : (w.alloc o).heap[k]? = w.heap[k]? := (Chg.alloc [] w o).block k hk (by simp)
section
variable {P : Program} {Q : Exit → Act → World → Prop} {g0 : Gh}
end
end Go.Abs
end
section
/-
  The row that a text's conversion makes, written into: bytes that are the call's own, with a mark behind them.
-/
namespace Go.Abs
section
variable {P : Program} {ty : TypeId} {pos : String} {aft : Array Edge} {gd : Option (Nat × Bool)}
end
section
variable {P : Program} {ty : TypeId} {pos : String} {aft : Array Edge} {gd : Option (Nat × Bool)}
end
end Go.Abs
end
section
/-
  The library of places, whole; strings.Index at a separator of one byte, strings.IndexByte; a struct out of a tuple.
-/
namespace Go.Abs
namespace Sh
def strings_Index (s sep : ByteArray) : Option Int := match sep.data.toList with
  | [c] => some (Lib.indexByte s.data.toList c)
  | _ => none
@[reducible] def internal_stringslite_Index (s sep : ByteArray) : Option Int := strings_Index s sep
def strings_IndexByte (s : ByteArray) (c : Int) : Option Int := some (Lib.indexByte s.data.toList c.toNat.toUInt8)
@[reducible] def internal_stringslite_IndexByte (s : ByteArray) (c : Int) : Option Int := strings_IndexByte s c
end Sh
section
variable {P : Program} {ty : TypeId} {pos : String} {aft : Array Edge} {gd : Option (Nat × Bool)}
theorem op_callPS (N T G : List Ent) (W : List Loc) (d : Nat) (f : FuncId) {cal : Operand} (xs ys : List Operand) {args : Array Operand} {ats : Array TypeId} (avs posts : List AV) (res : AV) (hcal : rd N cal = .v (.func (.func f) #[] #[])) (hrun : ∀ args w, (callFunc f args).run P w = .ok (.enter f args) w)
    (hargs : (xs ++ ys).toArray = args) (hx : isArgs (N ++ T) xs T = true) (hav : ys.map (argv N) = avs) (hf : FnP P f (T.map (·.2) ++ avs) posts res) (hpl : posts.length ≤ T.length) (hcl : closed res = true) (hclT : closeds (T.map (·.2)) = true) (hclp : closeds posts = true)
    (hno : N.all (fun e => noOwn e.2) = true) (hdt : T.all (fun e => !Nat.beq e.1 d) = true) (hG : zipP T posts ++ [(d, res)] = G) (hW : Loc.slot d :: boxW (zipP T posts) = W) :
    LOp P ⟨some d, .call ⟨.value cal, args, ats⟩, ty, pos, aft, gd⟩ N T G W := by
  subst hG hW hargs
  refine LOp.core fun g V oN oT a w hd hp => ?_
  have hN := Es_noOwn N oN hno hp.esN
  have hcv := rd_v hp.val hp.esN hcal
  have hr : (execOp a.eval ⟨some d, .call ⟨.value cal, (xs ++ ys).toArray, ats⟩, ty, pos, aft, gd⟩).run P w = .ok (.enter f ((xs ++ ys).toArray.map a.eval)) w := by
    simp [execOp, resolve, hcv, Deferred.ofValue, invoke, hrun]
  have hxe := isArgs_eval hp.val (Es_append.2 ⟨oN, oT, rfl, hp.esN, hp.esT⟩) hx
  have hR : Rs (gh0 w g.Imm (fun b => g.Im b ∨ b ∈ oN)) V0 w (T.map (·.2) ++ avs) ((xs ++ ys).map a.eval) oT := by
    rw [List.map_append, hxe]
    refine Rs_append.2 ⟨_, _, oT, [], rfl, by simp, ?_, ?_⟩
    · exact Rs_closed (g := g) (g' := gh0 w g.Imm (fun b => g.Im b ∨ b ∈ oN)) (fun _ h => h) _ _ oT hclT (.inl fun b hb => .inl hb) (Es_Rs hp.esT)
    · rw [← hav]
      exact argvs_R (g := g) (g' := gh0 w g.Imm (fun b => g.Im b ∨ b ∈ oN)) rfl (fun b hb => hb) hp.val hp.esN _
  have hnd := hp.nodup
  have hob : ∀ b ∈ oT, b < w.heap.size ∧ ¬ (g.Imm b ∨ g.Im b ∨ b ∈ oN) := by
    intro b hb
    have h1 := hp.own b (by simp [hb])
    refine ⟨h1.1, ?_⟩
    rintro (h | h | h)
    · exact h1.2 (.inl h)
    · exact h1.2 (.inr h)
    · exact (List.nodup_append.1 hnd).2.2 b h b hb rfl
  have hc := hf g.Imm (fun b => g.Im b ∨ b ∈ oN) w _ oT (fun b hb => by
    rcases hb with hb | hb | hb
    · exact hp.imm b (.inl hb)
    · exact hp.imm b (.inr hb)
    · exact (hp.own b (by simp [hb])).1) hR (List.nodup_append.1 hnd).2.1 hob
  have ea : ((xs ++ ys).map a.eval).toArray = (xs ++ ys).toArray.map a.eval := by simp
  rw [ea] at hc
  have hlt : d < g.n := hd d rfl
  refine Yl.call hr (hc.mono ?_)
  rintro e' w' ⟨y, rfl, hchg, Imm', o, hI, hnew, hRr, hndo, hfr⟩
  have htake : ((xs ++ ys).map a.eval).take posts.length = (T.map fun e => V (.slot e.1)).take posts.length := by
    rw [List.map_append, hxe, List.take_append_of_le_length (by simp [hpl])]
  simp only [htake, Rs] at hRr
  obtain ⟨y', vals, o1, o2, hyv, rfl, hR1, hR2⟩ := hRr
  obtain ⟨rfl, rfl⟩ := List.cons.inj hyv
  let V1 : Loc → Value := fun l => match l with
    | .slot u => if u = d then y else V (.slot u)
    | .cell u i => if u = d then cellAt w' y i else if Loc.cell u i ∈ boxW (zipP T posts) then cellAt w' (V (.slot u)) i else V (.cell u i)
  have hV1 : ∀ l, hit (.slot d :: boxW (zipP T posts)) l = false → V1 l = V l := by
    intro l hl
    simp only [hit, List.any_cons, Bool.or_eq_false_iff] at hl
    cases l with
    | slot u =>
      have : u ≠ d := fun e => by subst e; simp at hl
      simp [V1, this]
    | cell u i =>
      have h1 : u ≠ d := fun e => by subst e; simp at hl
      have h2 : Loc.cell u i ∉ boxW (zipP T posts) := fun hm => by
        have := List.any_eq_false.1 hl.2 _ hm
        simp at this
      simp [V1, h1, h2]
  have hTd : ∀ e ∈ T, e.1 ≠ d := fun e he hed => by
    have := List.all_eq_true.1 hdt e he
    rw [hed, Nat.beq_refl] at this; cases this
  have hslotT : (T.map fun e => V1 (.slot e.1)) = T.map fun e => V (.slot e.1) := List.map_congr_left fun e he => by simp [V1, hTd e he]
  have hzT : ∀ {T : List Ent} {ps : List AV} {t : Nat} {av : AV}, (t, av) ∈ zipP T ps → ∃ e ∈ T, e.1 = t := by
    intro T
    induction T with
    | nil => intro ps t av h; cases ps <;> cases h
    | cons e T ih =>
      intro ps t av h
      cases ps with
      | nil => cases h
      | cons p ps =>
        rcases List.mem_cons.1 h with h | h
        · cases h; exact ⟨e, by simp, rfl⟩
        · obtain ⟨e', h1, h2⟩ := ih h; exact ⟨e', by simp [h1], h2⟩
  refine ⟨y, rfl, { g with Imm := fun b => Imm' b }, V1, o2 ++ o1, ⟨rfl, rfl, rfl, rfl, rfl, hI, fun b hb => ?_⟩, fun b hb => ?_, fun b hb => ?_, hchg, hV1, ?_, ?_, ?_, fun b hb => ?_⟩
  · rcases hnew b hb with h | h | h
    · exact .inl h
    · exact .inr (hp.own2 b (by simp [h]))
    · exact .inr (.inl (Nat.le_trans hp.base h.1))
  · rcases hnew b hb with h | h | h
    · exact .inl h
    · exact .inr (.inl h)
    · exact .inr (.inr h.1)
  · rcases hnew b hb with h | h | h
    · exact Nat.lt_of_lt_of_le (hp.imm b (.inl h)) hchg.size
    · exact Nat.lt_of_lt_of_le (hob b h).1 hchg.size
    · exact h.2
  · intro t
    rw [put_getD a d t y (by rw [hp.size]; exact hlt)]
    simp only [V1]
    split
    · rfl
    · exact hp.val t
  · refine Es_append.2 ⟨o2, o1, rfl, ?_, o1, [], by simp, ⟨?_, ?_⟩, rfl⟩
    · refine zipP_Es (V := V) hpl ?_ ?_
      · rw [hslotT]
        exact Rs_closed (g := gh0 w Imm' (fun b => g.Im b ∨ b ∈ oN)) (g' := { g with Imm := fun b => Imm' b }) (fun _ h => h) _ _ o2 hclp (.inl fun b hb => hb.resolve_right (by rw [hN]; simp)) hR2
      · intro t T' cs hm b zs hb hh hsz i hi
        obtain ⟨e, he, rfl⟩ := hzT hm
        have htd := hTd e he
        have hb' : V (.slot e.1) = .pointer (some ⟨b, 0, none⟩) := by simpa [V1, htd] using hb
        have hmem := boxW_mem hm hi
        simp only [V1, htd, if_false, hmem, if_true, hb']
        obtain ⟨zl⟩ := zs
        exact cellAt_box hh (by simpa using (show i < zl.length by simp at hsz; omega))
    · show R _ _ _ res (V1 (.slot d)) o1
      rw [show V1 (.slot d) = y by simp [V1]]
      exact R_closed (g := gh0 w Imm' (fun b => g.Im b ∨ b ∈ oN)) (g' := { g with Imm := fun b => Imm' b }) (fun _ h => h) res y o1 hcl (.inl fun b hb => hb.resolve_right (by rw [hN]; simp)) hR1
    · cases res <;> try trivial
      case box T' cs =>
        intro b hb i hi
        dsimp only at hb hi ⊢
        rw [show V1 (.slot d) = y by simp [V1]] at hb
        simp only [R] at hR1
        obtain ⟨b', zs, os, hx', _, hh, hrs⟩ := hR1
        rw [hb] at hx'; cases hx'
        simp only [V1, if_true, hb]
        exact cellAt_box hh (by rw [Rs_length hrs]; exact hi)
  · exact List.perm_append_comm.nodup_iff.1 hndo
  · obtain ⟨h1, h2, h3⟩ := hfr b (by rcases List.mem_append.1 hb with h | h <;> simp [h])
    refine ⟨h1, h2, ?_⟩
    rintro (h | h)
    · exact h3 h
    · rcases h1 with h1 | h1
      · exact (hob b h1).2 (.inr (.inl h))
      · exact absurd (hp.imm b (.inr h)) (by omega)
end
/-! Tables that are laid before the call. -/
/-! What an operation gives is shared from then on. -/
end Go.Abs
end
section
/-
  strings.Builder: what a builder holds; its methods, told.
-/
namespace Go.Abs
set_option linter.unusedVariables false
namespace Sh
end Sh
def gD (w : World) : Gh := ⟨0, w, [], fun _ => False, fun _ => False, []⟩
theorem own_any {g g' : Gh} {V V' : Loc → Value} {w : World} {e : TypeId} {z : Nat} {xs : List Value} {x : Value} {o : List Nat} (h : R g V w (.fl (.own e) z xs) x o) : R g' V' w (.fl (.own e) z xs) x o := by
  simp only [R, modeOk] at *; exact h
theorem own_stab {g : Gh} {V : Loc → Value} {w w' : World} {e : TypeId} {z : Nat} {xs : List Value} {x : Value} {o : List Nat} (hw : ∀ b, b ∈ o → w'.heap[b]? = w.heap[b]?) (h : R g V w (.fl (.own e) z xs) x o) : R g V w' (.fl (.own e) z xs) x o :=
  own_any (R_stab (g := gD w) (g' := gD w) (V := V) (V' := V) (W := []) (fun _ h => h) (fun _ h => h) (fun _ _ => rfl) (.fl (.own e) z xs) x o rfl (fun b hb => hb.elim (hw b) (fun h => h.elim False.elim False.elim)) (own_any h))
def BldP (T e : TypeId) (u : Bool) (v : Value) (xs : List Value) (x : Value) (o : List Nat) (w : World) : Prop :=
  ∃ (b : Nat) (p : Value) (o2 : List Nat), x = .pointer (some ⟨b, 0, none⟩) ∧ o = b :: o2 ∧ w.heap[b]? = some (.cells #[p, v] T (0, 0)) ∧ (p = .pointer (some ⟨b, 0, none⟩) ∨ (u = false ∧ p = .pointer none)) ∧ R (gD w) V0 w (.fl (.own e) 1 xs) v o2
theorem BldP.stab {T e : TypeId} {u : Bool} {v : Value} {xs : List Value} {x : Value} {o : List Nat} {w w' : World} (h : BldP T e u v xs x o w) (hw : ∀ b ∈ o, w'.heap[b]? = w.heap[b]?) : BldP T e u v xs x o w' := by
  obtain ⟨b, p, o2, h1, rfl, h3, h4, h5⟩ := h
  exact ⟨b, p, o2, h1, rfl, by rw [hw b (by simp)]; exact h3, h4, own_any (own_stab (fun c hc => hw c (by simp [hc])) h5)⟩
section
variable {g : Gh} {P : Program} {Q : Exit → Act → World → Prop} {g0 : Gh} {rnd : Option Nat}
end
section
variable {P : Program}
end
/-! String. -/
section
variable {P : Program} {ty : TypeId} {pos : String} {aft : Array Edge} {gd : Option (Nat × Bool)}
end
/-! strings.Repeat. -/
namespace Sh
end Sh
/-! strings.Join. -/
namespace Sh
end Sh
/-! Functions that are given variables and know tables. -/
def FnPG (P : Program) (gl : List (Nat × List Value)) (f : FuncId) (args posts : List AV) (res : AV) : Prop :=
  ∀ (Imm Im : Nat → Prop) (w : World) (xs : List Value) (o0 : List Nat), (∀ b, Imm b ∨ Im b → b < w.heap.size) → GOK gl (fun b => Imm b ∨ Im b) w → Rs (gh0 w Imm Im) V0 w args xs o0 → o0.Nodup → (∀ b ∈ o0, b < w.heap.size ∧ ¬ (Imm b ∨ Im b)) →
    Calls P f xs.toArray w (AnsP xs posts o0 Imm Im w res)
theorem FnPG.args {P : Program} {gl : List (Nat × List Value)} {f : FuncId} {args args' posts : List AV} {res : AV} (h : FnPG P gl f args' posts res) (hs : Subs args args') : FnPG P gl f args posts res := fun Imm Im w xs o0 hi hg hr => h Imm Im w xs o0 hi hg (hs _ _ _ _ _ hr)
section
variable {P : Program} {Q : Exit → Act → World → Prop} {g0 : Gh} {rnd : Option Nat}
end
section
variable {P : Program} {ty : TypeId} {pos : String} {aft : Array Edge} {gd : Option (Nat × Bool)}
end
/-! strconv.Atoi, where it answers. -/
namespace Sh
end Sh
section
variable {P : Program} {ty : TypeId} {pos : String} {aft : Array Edge} {gd : Option (Nat × Bool)}
end
/-! A function value over a variable that lives on: told by the variable's name; the variable stands still while it is called. -/
section
variable {P : Program} {ty : TypeId} {pos : String} {aft : Array Edge} {gd : Option (Nat × Bool)}
end
section
variable {P : Program} {ty : TypeId} {pos : String} {aft : Array Edge} {gd : Option (Nat × Bool)}
end
/-! bytes.IndexAny at a line's end, where it answers. -/
namespace Sh
end Sh
/-! Short names, for the told functions' texts. -/
section
variable {P : Program} {Q : Exit → Act → World → Prop} {g0 : Gh} {rnd : Option Nat} {ops : Array Oper} {N T G : List Ent} {W : List Loc} {ty : TypeId} {pos : String} {aft : Array Edge} {gd : Option (Nat × Bool)}
abbrev zq (n : List Nat) (g s : Nat) : Sp := ⟨n, [], [g], [.slot s]⟩
theorem zl {n m : Nat} (h : Nat.ble n m = true) : n ≤ m := Nat.le_of_ble_eq_true h
theorem zp {o : Oper} (hg : o.guard = none) (h : LOp P o N T G W) : OpG P ops o N T G W := st_plain hg h
theorem zr {o : Oper} (j : Nat) {d : Nat} {want : Bool} {oj : Oper} (hg : o.guard = some (j, want)) (hj : ops[j]? = some oj) (hd : oj.dst = some d) (h : LOp P o ((d, AV.v (.bool want)) :: N) T G W) : OpG P ops o ((d, AV.v (.bool want)) :: N) T G W :=
  st_run j d want hg hj hd (List.Mem.head _) h
theorem zs {o : Oper} (j : Nat) (want : Bool) {d dd : Nat} {oj : Oper} (hg : o.guard = some (j, want)) (hj : ops[j]? = some oj) (hd : oj.dst = some d) (hdd : o.dst = some dd) : OpG P ops o ((d, AV.v (.bool (!want))) :: N) [] [(dd, .v undef)] [.slot dd] :=
  st_skip j d dd want hg hj hd hdd (List.Mem.head _)
abbrev vb (b : Bool) : AV := .v (.bool b)
abbrev vs (s : ByteArray) : AV := .v (.string s)
abbrev vi (n : Int) : AV := .v (.int .i64 n)
theorem z1 {d : Nat} {x : Operand} {av : AV} (h : (gd, dupOp N x, clr [.slot d] av) = (none, av, true)) : OpG P ops ⟨some d, .move x, ty, pos, aft, gd⟩ N [] [(d, av)] [.slot d] := st_plain (congrArg Prod.fst h) (op_move N d x av (congrArg (fun x => x.2.1) h) (congrArg (fun x => x.2.2) h))
theorem z2 {d : Nat} {x : Operand} {av : AV} (h : (gd, dupOp N x, clr [.slot d] av) = (none, av, true)) : OpG P ops ⟨some d, .assign x, ty, pos, aft, gd⟩ N [] [(d, av)] [.slot d] := st_plain (congrArg Prod.fst h) (op_assign N d x av (congrArg (fun x => x.2.1) h) (congrArg (fun x => x.2.2) h))
theorem z3 {d : Nat} {c x y : Operand} (b : Bool) {r : Value} (h : (gd, rd N c, rd N (if b then x else y)) = (none, .v (.bool b), .v r)) : OpG P ops ⟨some d, .pick c x y, ty, pos, aft, gd⟩ N [] [(d, .v r)] [.slot d] := st_plain (congrArg Prod.fst h) (op_pick N d b r (congrArg (fun x => x.2.1) h) (congrArg (fun x => x.2.2) h))
theorem z4 {d : Nat} {op : BinOp} {t t' : TypeId} {x y : Operand} {a b r : Value} (h : (gd, rd N x, rd N y) = (none, .v a, .v b)) (h2 : aBin op a b = some r) : OpG P ops ⟨some d, .binOp op t x y t', ty, pos, aft, gd⟩ N [] [(d, .v r)] [.slot d] := st_plain (congrArg Prod.fst h) (op_bin N d a b r (congrArg (fun x => x.2.1) h) (congrArg (fun x => x.2.2) h) h2)
theorem zr' {o oj : Oper} {j d : Nat} {want : Bool} (h : (o.guard, ops[j]?, oj.dst) = (some (j, want), some oj, some d)) (h2 : LOp P o ((d, AV.v (.bool want)) :: N) T G W) : OpG P ops o ((d, AV.v (.bool want)) :: N) T G W :=
  zr j (congrArg Prod.fst h) (congrArg (fun x => x.2.1) h) (congrArg (fun x => x.2.2) h) h2
theorem zt {o oj : Oper} {j d dd : Nat} (h : (o.guard, ops[j]?, oj.dst, o.dst) = (some (j, true), some oj, some d, some dd)) : OpG P ops o ((d, AV.v (.bool false)) :: N) [] [(dd, .v undef)] [.slot dd] :=
  zs j true (congrArg Prod.fst h) (congrArg (fun x => x.2.1) h) (congrArg (fun x => x.2.2.1) h) (congrArg (fun x => x.2.2.2) h)
theorem zf {o oj : Oper} {j d dd : Nat} (h : (o.guard, ops[j]?, oj.dst, o.dst) = (some (j, false), some oj, some d, some dd)) : OpG P ops o ((d, AV.v (.bool true)) :: N) [] [(dd, .v undef)] [.slot dd] :=
  zs j false (congrArg Prod.fst h) (congrArg (fun x => x.2.1) h) (congrArg (fun x => x.2.2.1) h) (congrArg (fun x => x.2.2.2) h)
theorem zg {id : Nat} {l : List Oper} {n : Nat} {es : List Ent} (hn : g0.n = n) (El : List Ent) (init fin : List Nat) (sps : List Sp) (es' : List Ent) (h : (init.map (tagE El), fin.map (tagE El)) = (es, es'))
    (hst : StepsM P l.toArray (tagE El) l sps) (hQ : PT Q g0 .normal es') (hc : seqOk n l El init sps fin = true := by kernel_rfl) : HT rnd P Q g0 (.region id l.toArray false) es := ht_seqR hn hc (congrArg Prod.fst h) (congrArg Prod.snd h) hst hQ
theorem zgg {id : Nat} {l : List Oper} {n : Nat} {y : Code} {es : List Ent} (hn : g0.n = n) (El : List Ent) (init fin : List Nat) (sps : List Sp) (es' : List Ent) (h : (init.map (tagE El), fin.map (tagE El)) = (es, es'))
    (hst : StepsM P l.toArray (tagE El) l sps) (hQ : HT rnd P Q g0 y es') (hc : seqOk n l El init sps fin = true := by kernel_rfl) : HT rnd P Q g0 (.seq (.region id l.toArray false) y) es := ht_seq (ht_seqR hn hc (congrArg Prod.fst h) (congrArg Prod.snd h) hst (pt_then hQ))
theorem zz : True := trivial
theorem oM {d : Nat} {x : Operand} {av : AV} (h : (dupOp N x, clr [.slot d] av) = (av, true)) : LOp P ⟨some d, .move x, ty, pos, aft, gd⟩ N [] [(d, av)] [.slot d] := op_move N d x av (congrArg Prod.fst h) (congrArg Prod.snd h)
theorem oB {d : Nat} {op : BinOp} {t t' : TypeId} {x y : Operand} {a b r : Value} (h : (rd N x, rd N y) = (.v a, .v b)) (h2 : aBin op a b = some r) : LOp P ⟨some d, .binOp op t x y t', ty, pos, aft, gd⟩ N [] [(d, .v r)] [.slot d] := op_bin N d a b r (congrArg Prod.fst h) (congrArg Prod.snd h) h2
theorem oL {d : Nat} {U : TypeId} {td : TypeDesc} {x : Operand} {T' : TypeId} {cs : List AV} {t off : Nat} {av : AV} (hT : P.underlying U = some td) (h : (isAggD td, dupOp N x, look N t, Nat.ble (off + 1) cs.length, dupC t off (cs.getD off .any), clr [.slot d] av, noBox av) = (false, .ptr t off, .box T' cs, true, av, true, true)) :
    LOp P ⟨some d, .load U x, ty, pos, aft, gd⟩ N [] [(d, av)] [.slot d] :=
  op_load N d x t off av hT (congrArg (fun x => x.1) h) (congrArg (fun x => x.2.1) h) (congrArg (fun x => x.2.2.1) h) (Nat.le_of_ble_eq_true (congrArg (fun x => x.2.2.2.1) h)) (congrArg (fun x => x.2.2.2.2.1) h) (congrArg (fun x => x.2.2.2.2.2.1) h) (congrArg (fun x => x.2.2.2.2.2.2) h)
theorem oF {d : Nat} {s : TypeId} {x : Operand} {i : Nat} {fs : Array Field} {f : Field} {t off k2 k : Nat} (hT : P.underlying s = some (.struct fs)) (h : (fs[i]?, dupOp N x, off + f.offset, Nat.beq t d) = (some f, .ptr t off, k2, false)) (hk : (P.info? f.type).map (·.size) = some (k + 1)) :
    LOp P ⟨some d, .fieldAddr s x i, ty, pos, aft, gd⟩ N [] [(d, .ptr t k2)] [.slot d] :=
  op_fieldAddr N d x i t off k2 hT (congrArg (fun x => x.1) h) hk (congrArg (fun x => x.2.1) h) (congrArg (fun x => x.2.2.1) h) (Nat.ne_of_beq_eq_false (congrArg (fun x => x.2.2.2) h))
theorem oS {U : TypeId} {ax vx : Operand} {T' : TypeId} {cs : List AV} {t off s : Nat} {av : AV} {cs' : List AV} (hs : (P.info? U).map (·.size) = some s) (h : (dupOp (N ++ [(t, .box T' cs)]) ax, dupOp N vx, cellsOk N av, (vcells av).length, Nat.ble (off + s) cs.length, cs.take off ++ (vcells av ++ cs.drop (off + s)), clrs (cellsW t off s) cs') = (.ptr t off, av, true, s, true, cs', true)) :
    LOp P ⟨none, .store U ax vx, ty, pos, aft, gd⟩ N [(t, .box T' cs)] [(t, .box T' cs')] (cellsW t off s) :=
  op_store N ax vx t off s av cs' hs (congrArg (fun x => x.1) h) (congrArg (fun x => x.2.1) h) (congrArg (fun x => x.2.2.1) h) (congrArg (fun x => x.2.2.2.1) h) (Nat.le_of_ble_eq_true (congrArg (fun x => x.2.2.2.2.1) h)) (congrArg (fun x => x.2.2.2.2.2.1) h) (congrArg (fun x => x.2.2.2.2.2.2) h)
theorem oE {t d i : Nat} {cs : List AV} {av : AV} (h : (look N t, dupCell (cs.getD i .any), Nat.ble (i + 1) cs.length, clr [.slot d] av, noBox av) = (.tup cs, av, true, true, true)) : LOp P ⟨some d, .extract (.tmp t) i, ty, pos, aft, gd⟩ N [] [(d, av)] [.slot d] :=
  op_extract N t d cs av (congrArg (fun x => x.1) h) (congrArg (fun x => x.2.1) h) (Nat.le_of_ble_eq_true (congrArg (fun x => x.2.2.1) h)) (congrArg (fun x => x.2.2.2.1) h) (congrArg (fun x => x.2.2.2.2) h)
theorem oN {d : Nat} {t t' : TypeId} {x : Operand} {s : ByteArray} (hT : P.underlying t = some .string) (hx : rd N x = .v (.string s)) : LOp P ⟨some d, .call ⟨.builtin .len, #[x], #[t]⟩, t', pos, aft, gd⟩ N [] [(d, .v (.int .i64 (s.size : Int)))] [.slot d] := op_len_str N d s hT hx
theorem z8 {d : Nat} {x : Operand} {b c : Bool} (hb : b = c) (h : (gd, dupOp N x) = (none, .v (.bool b))) : OpG P ops ⟨some d, .move x, ty, pos, aft, gd⟩ N [] [(d, .v (.bool c))] [.slot d] := by
  subst hb
  exact st_plain (congrArg Prod.fst h) (op_move N d x _ (congrArg Prod.snd h) rfl)
end
/-! A store into a struct that is a row's element. -/
theorem flat_fit {A : Type} {z : Nat} {enc : A → List Value} (he : ∀ x, (enc x).length = z) {l : List A} {i q s : Nat} {x : A} (h : getO l i = some x) (hq : q + s ≤ z) : i * z + q + s ≤ ((l.map enc).flatten).length := by
  have hi : i < l.length := (List.getElem?_eq_some_iff.1 h).1
  have := flat_lt he hi
  omega
theorem flat_setc {A : Type} {z : Nat} {enc : A → List Value} (he : ∀ x, (enc x).length = z) {l : List A} {i q s : Nat} {x y : A} {vs : List Value} (h : getO l i = some x) (hy : enc y = (enc x).take q ++ (vs ++ (enc x).drop (q + s))) (hq : q + s ≤ z) :
    ((l.map enc).flatten).take (i * z + q) ++ (vs ++ ((l.map enc).flatten).drop (i * z + q + s)) = ((l.set i y).map enc).flatten := by
  unfold getO at h
  obtain ⟨hi, hx⟩ := List.getElem?_eq_some_iff.1 h
  have hl : l = l.take i ++ x :: l.drop (i + 1) := by
    rw [← hx, List.getElem_cons_drop, List.take_append_drop]
  have e1 : ((l.map enc).flatten) = ((l.take i).map enc).flatten ++ (enc x ++ ((l.drop (i + 1)).map enc).flatten) := by
    conv => lhs; rw [hl]
    simp
  have e2 : ((l.set i y).map enc).flatten = ((l.take i).map enc).flatten ++ (enc y ++ ((l.drop (i + 1)).map enc).flatten) := by
    rw [List.set_eq_take_append_cons_drop, if_pos hi]
    simp
  have hlen : (((l.take i).map enc).flatten).length = i * z := by rw [flat_len he, List.length_take, Nat.min_eq_left (Nat.le_of_lt hi)]
  have hex := he x
  rw [e1, e2, hy, ← hlen, List.take_length_add_append, show (((l.take i).map enc).flatten).length + q + s = (((l.take i).map enc).flatten).length + (q + s) by omega, List.drop_length_add_append,
    List.take_append_of_le_length (by omega), List.drop_append_of_le_length (by omega)]
  simp only [List.append_assoc]
/-! A variable that is one number; strconv.Itoa, over its table. -/
namespace Sh
end Sh
section
variable {P : Program} {ty : TypeId} {pos : String} {aft : Array Edge} {gd : Option (Nat × Bool)}
end
/-! A plain value into a cell of a row of structs that hold rows. -/
section
variable {P : Program}
variable {ty : TypeId} {pos : String} {aft : Array Edge} {gd : Option (Nat × Bool)}
end
namespace Sh
end Sh
/-! A literal of several structs that hold rows. -/
inductive EOK (s : Bool) (z : Nat) (N : List Ent) (zl : List Value) : List (Option Operand) → List IC → Prop
  | nil : EOK s z N zl [] []
  | some (x : Operand) {av : AV} {ics jcs : List IC} {es : List (Option Operand)} (h : dupOp N x = av) (hok : cellsOk N av = true) (hai : AIs s (vcells av) ics) (hl : ics.length = z) (hr : EOK s z N zl es jcs) : EOK s z N zl (some x :: es) (ics ++ jcs)
  | none {ics jcs : List IC} {es : List (Option Operand)} (hai : AIs s (zl.map AV.v) ics) (hl : ics.length = z) (hr : EOK s z N zl es jcs) : EOK s z N zl (none :: es) (ics ++ jcs)
section
variable {P : Program} {ty : TypeId} {pos : String} {aft : Array Edge} {gd : Option (Nat × Bool)}
end
section
variable {P : Program} {ty : TypeId} {pos : String} {aft : Array Edge} {gd : Option (Nat × Bool)}
end
/-! The name of an own row, taken before a store into an element of it, used behind it. -/
section
variable {P : Program} {ty : TypeId} {pos : String} {aft : Array Edge} {gd : Option (Nat × Bool)}
end
/-! An own row in a variable's cell, its header laid open: what names it is a plain value then. -/
theorem St.perm {g : Gh} {V : Loc → Value} {o o' : List Nat} {a : Act} {w : World} (hs : St g V o a w) (hp : o.Perm o') : St g V o' a w :=
  ⟨hs.val, hs.size, hs.defers, hs.dnd, fun D hD => let ⟨h1, h2, h3⟩ := hs.marks D hD; ⟨h1, fun hm => h2 (hp.mem_iff.2 hm), h3⟩, hp.nodup_iff.1 hs.nodup, fun b hb => hs.own b (hp.mem_iff.2 hb), hs.imm, hs.chg⟩
section
variable {P : Program} {Q : Exit → Act → World → Prop} {g0 : Gh} {rnd : Option Nat}
variable {ty : TypeId} {pos : String} {aft : Array Edge} {gd : Option (Nat × Bool)}
end
section
variable {P : Program} {ty : TypeId} {pos : String} {aft : Array Edge} {gd : Option (Nat × Bool)}
end
/-! strings.Count, of one byte. -/
namespace Sh
end Sh
/-! Maps from short rows of bytes to numbers; arrays out of slices. -/
namespace Sh
def byB (k : List Int) : Bool := k.all fun x => decide (0 ≤ x) && decide (x < 256)
def mgetO (n : Nat) (m : List (List Int × Int)) (k : List Int) : Option Int := if k.length = n ∧ byB k = true then some ((m.lookup k).getD 0) else none
def arrO {A : Type} (n : Nat) (l : List A) : Option (List A) := if n ≤ l.length then some (l.take n) else none
def mputO (n : Nat) (m : List (List Int × Int)) (k : List Int) (v : Int) : Option (List (List Int × Int)) := if (k.length = n ∧ byB k = true) ∧ m.length < 140737488355328 ∧ -9223372036854775808 ≤ v ∧ v ≤ 9223372036854775807 then some ((k, v) :: m) else none
end Sh
end Go.Abs
end
