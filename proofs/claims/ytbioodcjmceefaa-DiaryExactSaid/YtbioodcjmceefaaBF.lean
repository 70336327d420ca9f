/-
  Calls behind a pointer that are lent own rows: whole, or an element of them; answers that hold rows of own rows.
-/
import Derived.Test.YtbioodcjmceefaaBE
namespace Go.Abs
set_option linter.unusedVariables false
def Lend (N : List Ent) (ys : List Operand) (avs : List AV) : Prop :=
  ∀ (g : Gh) (V : Loc → Value) (oN : List Nat) (a : Act) (w : World), (∀ t, V (.slot t) = a.tmps.getD t undef) → Es g V w N oN → Rs (gh0 w g.Imm (fun b => g.Im b ∨ b ∈ oN)) V0 w avs (ys.map a.eval) []
theorem lend_nil {N : List Ent} : Lend N [] [] := fun g V oN a w hv hN => by simp [Rs]
theorem lend_own {N : List Ent} {y : Operand} {ys : List Operand} {avs : List AV} {t z : Nat} {T : TypeId} {cs : List AV} {ics : List IC} (hd : dupOp N y = .same (.slot t)) (hx : (t, .hid (ownJ T z cs)) ∈ N) (hai : AIs true (cs.map shrA) ics) (h : Lend N ys avs) :
    Lend N (y :: ys) (.fr .shr true z ics :: avs) := fun g V oN a w hv hN => by
  simp only [List.map_cons, Rs]
  refine ⟨_, _, [], [], rfl, rfl, ?_, h g V oN a w hv hN⟩
  obtain ⟨oJ, hJs, hJ, _⟩ := Es_mem hN hx
  have he : a.eval y = V (.slot t) := by
    have hax := dupOp_R hv hN y
    rw [hd] at hax
    simp only [R] at hax
    exact hax.1
  rw [he]
  simp only [R] at hJ
  exact ownJ_lend hJs hJ hai
theorem oe_seg {A : Type} {z : Nat} {enc : A → List AV} (he : ∀ x, (enc x).length = z) {l : List A} {vs : List Value} {i : Nat} {x : A} (hv : vs.length = ((l.map enc).flatten).length) (h : getO l i = some x) : (vs.drop (i * z)).take z = (List.range z).map fun j => vs.getD (i * z + j) undef := by
  apply List.ext_getElem?
  intro j
  rw [List.getElem?_take, List.getElem?_drop, List.getElem?_map]
  by_cases hj : j < z
  · rw [if_pos hj, List.getElem?_range hj]
    exact oe_get he hv h hj
  · rw [if_neg hj, List.getElem?_eq_none (by simpa using hj)]; rfl
theorem lend_el {N : List Ent} {y : Operand} {ys : List Operand} {avs : List AV} {gs k z : Nat} {cs el : List AV} {vs xs : List Value} (hv : (vs.drop k).take z = xs) (hc : (cs.drop k).take z = el) (hx : rd N y = .agg (xs.map .v)) (hJ : (gs, .inv (ownI cs vs)) ∈ N) (h : Lend N ys avs) :
    Lend N (y :: ys) (.agg (el.map shrA) :: avs) := fun g V oN a w hval hN => by
  simp only [List.map_cons, Rs]
  refine ⟨_, _, [], [], rfl, rfl, ?_, h g V oN a w hval hN⟩
  obtain ⟨oJ, hJs, hJ⟩ := inv_mem hN hJ
  have hJ : Rs (gh0 w g.Imm g.Im) V0 w cs vs oJ := hJ
  obtain ⟨o', ho, hr⟩ := rd_R hval hN y
  rw [hx] at hr
  simp only [R] at hr ⊢
  obtain ⟨xs', e, hxs⟩ := hr
  have hxs' : xs' = xs := by
    have : ∀ (l l' : List Value) (o : List Nat), Rs g V w (l.map .v) l' o → l' = l := by
      intro l
      induction l with
      | nil => intro l' o h; simp only [List.map_nil, Rs] at h; exact h.1
      | cons x l ih =>
        intro l' o h
        simp only [List.map_cons, Rs, R] at h
        obtain ⟨x', l2, o1, o2, rfl, _, h1, h2⟩ := h
        rw [h1.1, ih l2 o2 h2]
    exact this _ _ _ hxs
  subst hxs'
  obtain ⟨o2, hs2, hseg⟩ := Rs_seg k z hJ
  rw [hc, hv] at hseg
  exact ⟨_, e, shrAs_R (fun b hb => hJs b (hs2 b hb)) hseg⟩
theorem noIms_of {cs : List AV} (hc : closeds cs = true) (hs : noShrs cs = true) : NoIms cs := fun I M M' w0 w xs o h => Rs_closed (g := gh0 w0 I M) (g' := gh0 w0 I M') (fun _ h => h) _ xs o hc (.inr hs) h
section
variable {P : Program} {ty : TypeId} {pos : String} {aft : Array Edge} {gd : Option (Nat × Bool)}
theorem op_callPL (N T G : List Ent) (W : List Loc) (d : Nat) (f : FuncId) {cal : Operand} (xs ys : List Operand) {args : Array Operand} {ats : Array TypeId} (avs posts : List AV) (res : AV) (hcal : rd N cal = .v (.func (.func f) #[] #[])) (hrun : ∀ args w, (callFunc f args).run P w = .ok (.enter f args) w)
    (hargs : (xs ++ ys).toArray = args) (hx : isArgs (N ++ T) xs T = true) (hav : Lend N ys avs) (hf : FnP P f (T.map (·.2) ++ avs) posts res) (hpl : posts.length ≤ T.length) (hcl : closed res = true) (hclT : closeds (T.map (·.2)) = true) (hclp : closeds posts = true)
    (hsh : NoIm res) (hshp : NoIms posts) (hdt : T.all (fun e => !Nat.beq e.1 d) = true) (hG : zipP T posts ++ [(d, res)] = G) (hW : Loc.slot d :: boxW (zipP T posts) = W) :
    LOp P ⟨some d, .call ⟨.value cal, args, ats⟩, ty, pos, aft, gd⟩ N T G W := by
  subst hG hW hargs
  refine LOp.core fun g V oN oT a w hd hp => ?_
  have hcv := rd_v hp.val hp.esN hcal
  have hr : (execOp a.eval ⟨some d, .call ⟨.value cal, (xs ++ ys).toArray, ats⟩, ty, pos, aft, gd⟩).run P w = .ok (.enter f ((xs ++ ys).toArray.map a.eval)) w := by
    simp [execOp, resolve, hcv, Deferred.ofValue, invoke, hrun]
  have hxe := isArgs_eval hp.val (Es_append.2 ⟨oN, oT, rfl, hp.esN, hp.esT⟩) hx
  have hR : Rs (gh0 w g.Imm (fun b => g.Im b ∨ b ∈ oN)) V0 w (T.map (·.2) ++ avs) ((xs ++ ys).map a.eval) oT := by
    rw [List.map_append, hxe]
    refine Rs_append.2 ⟨_, _, oT, [], rfl, by simp, ?_, ?_⟩
    · exact Rs_closed (g := g) (g' := gh0 w g.Imm (fun b => g.Im b ∨ b ∈ oN)) (fun _ h => h) _ _ oT hclT (.inl fun b hb => .inl hb) (Es_Rs hp.esT)
    · exact hav g V oN a w hp.val hp.esN
  have hnd := hp.nodup
  have hob : ∀ b ∈ oT, b < w.heap.size ∧ ¬ (g.Imm b ∨ g.Im b ∨ b ∈ oN) := by
    intro b hb
    have h1 := hp.own b (by simp [hb])
    refine ⟨h1.1, ?_⟩
    rintro (h | h | h)
    · exact h1.2 (.inl h)
    · exact h1.2 (.inr h)
    · exact (List.nodup_append.1 hnd).2.2 b h b hb rfl
  have hc := hf g.Imm (fun b => g.Im b ∨ b ∈ oN) w _ oT (fun b hb => by
    rcases hb with hb | hb | hb
    · exact hp.imm b (.inl hb)
    · exact hp.imm b (.inr hb)
    · exact (hp.own b (by simp [hb])).1) hR (List.nodup_append.1 hnd).2.1 hob
  have ea : ((xs ++ ys).map a.eval).toArray = (xs ++ ys).toArray.map a.eval := by simp
  rw [ea] at hc
  have hlt : d < g.n := hd d rfl
  refine Yl.call hr (hc.mono ?_)
  rintro e' w' ⟨y, rfl, hchg, Imm', o, hI, hnew, hRr, hndo, hfr⟩
  have htake : ((xs ++ ys).map a.eval).take posts.length = (T.map fun e => V (.slot e.1)).take posts.length := by
    rw [List.map_append, hxe, List.take_append_of_le_length (by simp [hpl])]
  simp only [htake, Rs] at hRr
  obtain ⟨y', vals, o1, o2, hyv, rfl, hR1, hR2⟩ := hRr
  obtain ⟨rfl, rfl⟩ := List.cons.inj hyv
  let V1 : Loc → Value := fun l => match l with
    | .slot u => if u = d then y else V (.slot u)
    | .cell u i => if u = d then cellAt w' y i else if Loc.cell u i ∈ boxW (zipP T posts) then cellAt w' (V (.slot u)) i else V (.cell u i)
  have hV1 : ∀ l, hit (.slot d :: boxW (zipP T posts)) l = false → V1 l = V l := by
    intro l hl
    simp only [hit, List.any_cons, Bool.or_eq_false_iff] at hl
    cases l with
    | slot u =>
      have : u ≠ d := fun e => by subst e; simp at hl
      simp [V1, this]
    | cell u i =>
      have h1 : u ≠ d := fun e => by subst e; simp at hl
      have h2 : Loc.cell u i ∉ boxW (zipP T posts) := fun hm => by
        have := List.any_eq_false.1 hl.2 _ hm
        simp at this
      simp [V1, h1, h2]
  have hTd : ∀ e ∈ T, e.1 ≠ d := fun e he hed => by
    have := List.all_eq_true.1 hdt e he
    rw [hed, Nat.beq_refl] at this; cases this
  have hslotT : (T.map fun e => V1 (.slot e.1)) = T.map fun e => V (.slot e.1) := List.map_congr_left fun e he => by simp [V1, hTd e he]
  have hzT : ∀ {T : List Ent} {ps : List AV} {t : Nat} {av : AV}, (t, av) ∈ zipP T ps → ∃ e ∈ T, e.1 = t := by
    intro T
    induction T with
    | nil => intro ps t av h; cases ps <;> cases h
    | cons e T ih =>
      intro ps t av h
      cases ps with
      | nil => cases h
      | cons p ps =>
        rcases List.mem_cons.1 h with h | h
        · cases h; exact ⟨e, by simp, rfl⟩
        · obtain ⟨e', h1, h2⟩ := ih h; exact ⟨e', by simp [h1], h2⟩
  refine ⟨y, rfl, { g with Imm := fun b => Imm' b }, V1, o2 ++ o1, ⟨rfl, rfl, rfl, rfl, rfl, hI, fun b hb => ?_⟩, fun b hb => ?_, fun b hb => ?_, hchg, hV1, ?_, ?_, ?_, fun b hb => ?_⟩
  · rcases hnew b hb with h | h | h
    · exact .inl h
    · exact .inr (hp.own2 b (by simp [h]))
    · exact .inr (.inl (Nat.le_trans hp.base h.1))
  · rcases hnew b hb with h | h | h
    · exact .inl h
    · exact .inr (.inl h)
    · exact .inr (.inr h.1)
  · rcases hnew b hb with h | h | h
    · exact Nat.lt_of_lt_of_le (hp.imm b (.inl h)) hchg.size
    · exact Nat.lt_of_lt_of_le (hob b h).1 hchg.size
    · exact h.2
  · intro t
    rw [put_getD a d t y (by rw [hp.size]; exact hlt)]
    simp only [V1]
    split
    · rfl
    · exact hp.val t
  · refine Es_append.2 ⟨o2, o1, rfl, ?_, o1, [], by simp, ⟨?_, ?_⟩, rfl⟩
    · refine zipP_Es (V := V) hpl ?_ ?_
      · rw [hslotT]
        exact Rs_closed (g := gh0 w Imm' g.Im) (g' := { g with Imm := fun b => Imm' b }) (fun _ h => h) _ _ o2 hclp (.inl fun _ h => h) (hshp Imm' (fun b => g.Im b ∨ b ∈ oN) g.Im w w' _ o2 hR2)
      · intro t T' cs hm b zs hb hh hsz i hi
        obtain ⟨e, he, rfl⟩ := hzT hm
        have htd := hTd e he
        have hb' : V (.slot e.1) = .pointer (some ⟨b, 0, none⟩) := by simpa [V1, htd] using hb
        have hmem := boxW_mem hm hi
        simp only [V1, htd, if_false, hmem, if_true, hb']
        obtain ⟨zl⟩ := zs
        exact cellAt_box hh (by simpa using (show i < zl.length by simp at hsz; omega))
    · show R _ _ _ res (V1 (.slot d)) o1
      rw [show V1 (.slot d) = y by simp [V1]]
      exact R_closed (g := gh0 w Imm' g.Im) (g' := { g with Imm := fun b => Imm' b }) (fun _ h => h) res y o1 hcl (.inl fun _ h => h) (hsh Imm' (fun b => g.Im b ∨ b ∈ oN) g.Im w w' y o1 hR1)
    · cases res <;> try trivial
      case box T' cs =>
        intro b hb i hi
        dsimp only at hb hi ⊢
        rw [show V1 (.slot d) = y by simp [V1]] at hb
        simp only [R] at hR1
        obtain ⟨b', zs, os, hx', _, hh, hrs⟩ := hR1
        rw [hb] at hx'; cases hx'
        simp only [V1, if_true, hb]
        exact cellAt_box hh (by rw [Rs_length hrs]; exact hi)
  · exact List.perm_append_comm.nodup_iff.1 hndo
  · obtain ⟨h1, h2, h3⟩ := hfr b (by rcases List.mem_append.1 hb with h | h <;> simp [h])
    refine ⟨h1, h2, ?_⟩
    rintro (h | h)
    · exact h3 h
    · rcases h1 with h1 | h1
      · exact (hob b h1).2 (.inr (.inl h))
      · exact absurd (hp.imm b (.inr h)) (by omega)
end
end Go.Abs
