/-
  Rows of own rows: a row whose cells hold memory of their own; nobody else holds any of it. '.hid (ownJ T z cs)' hides the cells' values; opened, the row is a plain one and a word beside it ('.inv (ownI cs vs)') holds what its cells stand for.
-/
import Derived.Test.YtbioodcjmceefaaAN
namespace Go.Abs
set_option linter.unusedVariables false
def ownI (cs : List AV) (vs : List Value) : InvT :=
  ⟨fun I M o w => Rs (gh0 w I M) V0 w cs vs o, fun I M I' M' o w w' hI hM hw h =>
    Rs_stab (g := gh0 w I M) (g' := gh0 w' I' M') (W := []) hI hM (fun _ _ => rfl) cs vs o (clrs_nil cs) (fun b hb => hw b hb) h⟩
def ownJ (T : TypeId) (z : Nat) (cs : List AV) : HidT where
  P I M x o w := ∃ (vs : List Value) (o1 o2 : List Nat), o = o1 ++ o2 ∧ R (gh0 w I M) V0 w (.fl (.own T) z vs) x o1 ∧ Rs (gh0 w I M) V0 w cs vs o2
  stab I M I' M' x o w w' hI hM hw h := by
    obtain ⟨vs, o1, o2, rfl, h1, h2⟩ := h
    exact ⟨vs, o1, o2, rfl,
      R_stab (g := gh0 w I M) (g' := gh0 w' I' M') (W := []) hI hM (fun _ _ => rfl) _ x o1 rfl (fun b hb => hw b (hb.imp (fun h => by simp [h]) id)) h1,
      Rs_stab (g := gh0 w I M) (g' := gh0 w' I' M') (W := []) hI hM (fun _ _ => rfl) cs vs o2 (clrs_nil cs) (fun b hb => hw b (hb.imp (fun h => by simp [h]) id)) h2⟩
  one := true
  cell _ I M x o w h := by
    obtain ⟨vs, o1, o2, rfl, h1, h2⟩ := h
    simp only [R] at h1
    obtain ⟨a, n, c, ⟨rfl, _⟩, _⟩ := h1
    rfl
theorem fl_gh {g g' : Gh} (V V' : Loc → Value) {w : World} {T : TypeId} {z : Nat} {vs : List Value} {x : Value} {o : List Nat} (hI : ∀ b, g.Imm b → g'.Imm b) (h : R g V w (.fl (.own T) z vs) x o) : R g' V' w (.fl (.own T) z vs) x o :=
  R_closed hI _ _ _ rfl (.inr rfl) h
theorem sub_nil_own (T : TypeId) (z : Nat) : Sub (.v (.slice none 0 0)) (.hid (ownJ T z [])) := fun g V w x o h => by
  have h' := sub_nil T z g V w x o h
  simp only [R] at h ⊢
  exact ⟨[], o, [], by simp, fl_gh V V0 (fun _ h => h) h', by simp [Rs]⟩
section
variable {g : Gh} {a : Act} {w : World}
theorem Sat.openOwn {es : List Ent} {t z : Nat} {T : TypeId} {cs : List AV} (gs : Nat) (h : Sat g ((t, .hid (ownJ T z cs)) :: es) a w) :
    ∃ vs : List Value, vs.length = cs.length ∧ Sat g ((t, .fl (.own T) z vs) :: (gs, .inv (ownI cs vs)) :: es) a w := by
  obtain ⟨V, ow, hst, o1, oR, rfl, ⟨hR, _⟩, hF⟩ := h
  simp only [R] at hR
  obtain ⟨vs, oa, ob, rfl, h1, h2⟩ := hR
  refine ⟨vs, Rs_length h2, V, _, by simpa using hst, oa, ob ++ oR, rfl, ⟨fl_gh V0 V (fun _ h => h) h1, trivial⟩, ob, oR, rfl, ⟨?_, trivial⟩, hF⟩
  simp only [R]
  exact h2
theorem Sat.closeOwn {es : List Ent} {t gs z : Nat} {T : TypeId} {cs : List AV} {vs : List Value} (h : Sat g ((t, .fl (.own T) z vs) :: (gs, .inv (ownI cs vs)) :: es) a w) :
    Sat g ((t, .hid (ownJ T z cs)) :: es) a w := by
  obtain ⟨V, ow, hst, oa, o2, rfl, ⟨hR, _⟩, ob, oR, rfl, ⟨hJ, _⟩, hF⟩ := h
  simp only [R] at hJ
  refine ⟨V, _, hst, oa ++ ob, oR, by simp, ⟨?_, trivial⟩, hF⟩
  show R g V w (.hid (ownJ T z cs)) (V (.slot t)) (oa ++ ob)
  have h1 := fl_gh (g' := gh0 w g.Imm g.Im) V V0 (fun _ h => h) hR
  have h2 : (ownJ T z cs).P g.Imm g.Im (V (.slot t)) (oa ++ ob) w := ⟨vs, oa, ob, rfl, h1, hJ⟩
  simp only [R]
  exact h2
end
section
variable {P : Program} {Q : Exit → Act → World → Prop} {g0 : Gh} {rnd : Option Nat}
theorem ht_openO {cd : Code} {es : List Ent} {t z : Nat} {T : TypeId} {cs : List AV} (gs : Nat)
    (h : ∀ vs : List Value, vs.length = cs.length → HT rnd P Q g0 cd ((t, .fl (.own T) z vs) :: (gs, .inv (ownI cs vs)) :: es)) : HT rnd P Q g0 cd ((t, .hid (ownJ T z cs)) :: es) := by
  intro g a w hl hs
  obtain ⟨vs, hv, hs'⟩ := hs.openOwn gs
  exact h vs hv g a w hl hs'
theorem pt_closeO {e : Exit} {es : List Ent} {t gs z : Nat} {T : TypeId} {cs : List AV} {vs : List Value}
    (h : PT Q g0 e ((t, .hid (ownJ T z cs)) :: es)) : PT Q g0 e ((t, .fl (.own T) z vs) :: (gs, .inv (ownI cs vs)) :: es) :=
  fun g a w hl hs => h g a w hl hs.closeOwn
end
section
variable {P : Program} {ty : TypeId} {pos : String} {aft : Array Edge} {gd : Option (Nat × Bool)}
theorem op_len_own (N : List Ent) (d : Nat) {t' u e T : TypeId} {x : Operand} {z : Nat} {cs : List AV} (n : Nat) (hT : P.underlying u = some (.slice e)) (hx : rd N x = .hid (ownJ T z cs)) (hn : cs.length = n * z) (h0 : 0 < z) :
    LOp P ⟨some d, .call ⟨.builtin .len, #[x], #[u]⟩, t', pos, aft, gd⟩ N [] [(d, .v (.int .i64 (n : Int)))] [.slot d] := by
  refine LOp.v rfl fun g V oN a w hp => ?_
  obtain ⟨o', _, hr⟩ := rd_R hp.val hp.esN x
  rw [hx] at hr
  simp only [R] at hr
  obtain ⟨vs, o1, o2, _, h1, h2⟩ := hr
  simp only [R] at h1
  obtain ⟨A, m, c, ⟨hv, _⟩, hl, _⟩ := h1
  have hm : m = n := Nat.eq_of_mul_eq_mul_right h0 (by rw [← hl, Rs_length h2, hn])
  subst hm
  simp [execOp, resolve, invoke, builtin, Builtin.len_, hv, run_underlying hT, goInt]
theorem inv_mem {g : Gh} {V : Loc → Value} {w : World} {N : List Ent} {oN : List Nat} {gs : Nat} {J : InvT} (h : Es g V w N oN) (hm : (gs, AV.inv J) ∈ N) : ∃ o', (∀ b ∈ o', b ∈ oN) ∧ J.P g.Imm g.Im o' w := by
  obtain ⟨o', hs, hr, _⟩ := Es_mem h hm
  simp only [R] at hr
  exact ⟨o', hs, hr⟩
theorem op_callElW (N : List Ent) (d gs k : Nat) (f : FuncId) {cal x : Operand} {ys : List Operand} {args : Array Operand} {ats : Array TypeId} {cs cs' : List AV} {vs : List Value} {v : Value} {E : TypeId} {z : Nat} {l l' : List Value} (avs : List AV) (res : AV) (hcal : rd N cal = .v (.func (.func f) #[] #[])) (hrun : ∀ args w, (callFunc f args).run P w = .ok (.enter f args) w)
    (hargs : (x :: ys).toArray = args) (hx : rd N x = .v v) (hk : vs[k]? = some v) (hc : cs[k]? = some (.fl (.own E) z l)) (hc' : cs.set k (.fl (.own E) z l') = cs') (hav : ys.map (argv N) = avs) (hf : FnP P f (.fl (.own E) z l :: avs) [.fl (.own E) z l'] res) (hcl : closed res = true) (hsh : noShr res = true) (hnb : noBox res = true) :
    LOp P ⟨some d, .call ⟨.value cal, args, ats⟩, ty, pos, aft, gd⟩ N [(gs, .inv (ownI cs vs))] [(gs, .inv (ownI cs' vs)), (d, res)] [.slot d] := by
  subst hargs hc'
  refine LOp.core fun g V oN oT a w hd hp => ?_
  have hcv := rd_v hp.val hp.esN hcal
  have hxv := rd_v hp.val hp.esN hx
  have hr : (execOp a.eval ⟨some d, .call ⟨.value cal, (x :: ys).toArray, ats⟩, ty, pos, aft, gd⟩).run P w = .ok (.enter f ((x :: ys).toArray.map a.eval)) w := by
    simp [execOp, resolve, hcv, Deferred.ofValue, invoke, hrun]
  have hT := hp.esT
  simp only [Es] at hT
  obtain ⟨oJ, o2', rfl, ⟨hJ, _⟩, rfl⟩ := hT
  simp only [R] at hJ
  have hJ : Rs (gh0 w g.Imm g.Im) V0 w cs vs oJ := hJ
  have hi : k < cs.length := (List.getElem?_eq_some_iff.1 hc).1
  have hlen := Rs_length hJ
  obtain ⟨oa, o1, ob, rfl, hA, hR, hB⟩ := Rs_parts k hJ hi
  have e1 : cs.getD k .any = .fl (.own E) z l := by simp [List.getD_eq_getElem?_getD, hc]
  have e2 : vs.getD k undef = v := by simp [List.getD_eq_getElem?_getD, hk]
  rw [e1, e2] at hR
  have hnd0 : (oN ++ (oa ++ (o1 ++ ob))).Nodup := by have := hp.nodup; simpa using this
  have hndT : (oa ++ (o1 ++ ob)).Nodup := (List.nodup_append.1 hnd0).2.1
  have hoT : ∀ b ∈ oa ++ (o1 ++ ob), b < w.heap.size ∧ ¬ (g.Imm b ∨ g.Im b ∨ b ∈ oN) := by
    intro b hb
    have h1 := hp.own b (by simp only [List.mem_append] at hb ⊢; simp only [List.not_mem_nil, or_false]; exact .inr hb)
    refine ⟨h1.1, ?_⟩
    rintro (h | h | h)
    · exact h1.2 (.inl h)
    · exact h1.2 (.inr h)
    · exact (List.nodup_append.1 hnd0).2.2 b h b hb rfl
  have ho1 : ∀ b ∈ o1, b ∈ oa ++ (o1 ++ ob) := fun b hb => by simp [hb]
  have hargs : Rs (gh0 w g.Imm (fun b => g.Im b ∨ b ∈ oN)) V0 w (.fl (.own E) z l :: avs) ((x :: ys).map a.eval) o1 := by
    simp only [List.map_cons, Rs]
    refine ⟨_, _, o1, [], rfl, by simp, ?_, ?_⟩
    · rw [hxv]; exact fl_gh V0 V0 (fun _ h => h) hR
    · rw [← hav]
      exact argvs_R (g := g) (g' := gh0 w g.Imm (fun b => g.Im b ∨ b ∈ oN)) rfl (fun b hb => hb) hp.val hp.esN _
  have hcl2 := hf g.Imm (fun b => g.Im b ∨ b ∈ oN) w _ o1 (fun b hb => by
    rcases hb with hb | hb | hb
    · exact hp.imm b (.inl hb)
    · exact hp.imm b (.inr hb)
    · exact (hp.own b (by simp [hb])).1) hargs (by have := (List.nodup_append.1 hndT).2.1; exact (List.nodup_append.1 this).1) (fun b hb => hoT b (ho1 b hb))
  have ea : ((x :: ys).map a.eval).toArray = (x :: ys).toArray.map a.eval := by simp
  rw [ea] at hcl2
  have hlt : d < g.n := hd d rfl
  refine Yl.call hr (hcl2.mono ?_)
  rintro e' w' ⟨y, rfl, hchg, Imm', o, hI, hnew, hRr, hndo, hfr⟩
  simp only [List.map_cons, List.length_cons, List.length_nil, Nat.zero_add, List.take_succ_cons, List.take_zero, Rs] at hRr
  obtain ⟨y', ys', p1, p2, hyv, rfl, hR1, x', xs', q1, q2, hxe, rfl, hR2, rfl, rfl⟩ := hRr
  obtain ⟨rfl, rfl⟩ := List.cons.inj hyv
  obtain ⟨rfl, _⟩ := List.cons.inj hxe
  rw [hxv] at hR2
  have hkeep : ∀ b, b ∈ oa ∨ b ∈ ob ∨ g.Imm b ∨ g.Im b → w'.heap[b]? = w.heap[b]? := by
    intro b hb
    have hb1 : b ∉ o1 := by
      intro h1
      rcases hb with hb | hb | hb
      · exact (List.nodup_append.1 hndT).2.2 b hb b (by simp [h1]) rfl
      · exact (List.nodup_append.1 (List.nodup_append.1 hndT).2.1).2.2 b h1 b hb rfl
      · exact (hoT b (ho1 b h1)).2 (hb.imp id .inl)
    refine hchg.block b ?_ hb1
    rcases hb with hb | hb | hb
    · exact (hoT b (by simp [hb])).1
    · exact (hoT b (by simp [hb])).1
    · exact hp.imm b hb
  have hq : ∀ b ∈ p1 ++ (q1 ++ []), (b ∈ o1 ∨ w.heap.size ≤ b) ∧ b < w'.heap.size ∧ ¬ (Imm' b ∨ g.Im b) := by
    intro b hb
    obtain ⟨h1, h2, h3⟩ := hfr b hb
    refine ⟨h1, h2, ?_⟩
    rintro (h | h)
    · exact h3 h
    · rcases h1 with h1 | h1
      · exact (hoT b (ho1 b h1)).2 (.inr (.inl h))
      · exact absurd (hp.imm b (.inr h)) (by omega)
  have hold : ∀ b ∈ oa ++ ob, b < w'.heap.size ∧ ¬ (Imm' b ∨ g.Im b) := by
    intro b hb
    have hb' : b ∈ oa ++ (o1 ++ ob) := by simp only [List.mem_append] at hb ⊢; exact hb.imp id .inr
    have h0 := hoT b hb'
    refine ⟨Nat.lt_of_lt_of_le h0.1 hchg.size, ?_⟩
    rintro (h | h)
    · rcases hnew b h with h | h | h
      · exact h0.2 (.inl h)
      · rcases List.mem_append.1 hb with h1 | h1
        · exact (List.nodup_append.1 hndT).2.2 b h1 b (by simp [h]) rfl
        · exact (List.nodup_append.1 (List.nodup_append.1 hndT).2.1).2.2 b h b h1 rfl
      · omega
    · exact h0.2 (.inr (.inl h))
  refine ⟨y, rfl, { g with Imm := fun b => Imm' b }, setV V d y, (oa ++ (q1 ++ ob)) ++ p1, ⟨rfl, rfl, rfl, rfl, rfl, hI, fun b hb => ?_⟩, fun b hb => ?_, fun b hb => ?_, ?_, fun l hl => setV_hit hl, fun u => setV_val hp.val hp.size hlt u, ?_, ?_, fun b hb => ?_⟩
  · rcases hnew b hb with h | h | h
    · exact .inl h
    · exact .inr (hp.own2 b (by simp [h]))
    · exact .inr (.inl (Nat.le_trans hp.base h.1))
  · rcases hnew b hb with h | h | h
    · exact .inl h
    · exact .inr (.inl (by simp [h]))
    · exact .inr (.inr h.1)
  · rcases hnew b hb with h | h | h
    · exact Nat.lt_of_lt_of_le (hp.imm b (.inl h)) hchg.size
    · exact Nat.lt_of_lt_of_le (hoT b (ho1 b h)).1 hchg.size
    · exact h.2
  · exact hchg.mono fun b hb => by simp [hb]
  · refine ⟨oa ++ (q1 ++ ob), p1, rfl, ⟨?_, trivial⟩, p1, [], by simp, ⟨?_, ?_⟩, rfl⟩
    · show R _ _ _ (.inv (ownI (cs.set k (.fl (.own E) z l')) vs)) _ _
      simp only [R]
      have hst : ∀ {c : List AV} {u : List Value} {o : List Nat}, (∀ b ∈ o, b ∈ oa ∨ b ∈ ob) → Rs (gh0 w g.Imm g.Im) V0 w c u o → Rs (gh0 w' Imm' g.Im) V0 w' c u o := fun ho h =>
        Rs_stab (g := gh0 w g.Imm g.Im) (g' := gh0 w' Imm' g.Im) (W := []) hI (fun _ h => h) (fun _ _ => rfl) _ _ _ (clrs_nil _) (fun b hb => hkeep b (by
          rcases hb with hb | hb
          · exact (ho b hb).imp id .inl
          · exact .inr (.inr hb))) h
      exact Rs_join (g := gh0 w' Imm' g.Im) (V := V0) k hi hlen (hst (fun b hb => .inl hb) hA) (by rw [e2]; exact fl_gh (g := gh0 w Imm' (fun b => g.Im b ∨ b ∈ oN)) V0 V0 (fun _ h => h) hR2) (hst (fun b hb => .inr hb) hB)
    · show R _ _ _ res (setV V d y (.slot d)) p1
      rw [setV_slot]
      exact R_closed (g := gh0 w Imm' (fun b => g.Im b ∨ b ∈ oN)) (g' := { g with Imm := fun b => Imm' b }) (fun _ h => h) res y p1 hcl (.inr hsh) hR1
    · cases res <;> first | trivial | (simp [noBox] at hnb)
  · have hn1 : (q1 ++ p1).Nodup := by
      have : (p1 ++ q1).Nodup := by simpa using hndo
      exact List.perm_append_comm.nodup_iff.1 this
    have hn2 : (oa ++ ob).Nodup := by
      have : (o1 ++ (oa ++ ob)).Nodup := by
        have hperm : (oa ++ (o1 ++ ob)).Perm (o1 ++ (oa ++ ob)) := by
          rw [← List.append_assoc, ← List.append_assoc]; exact List.perm_append_comm.append_right _
        exact hperm.nodup_iff.1 hndT
      exact (List.nodup_append.1 this).2.1
    have hdis : ∀ b ∈ oa ++ ob, b ∉ q1 ++ p1 := by
      intro b hb hq1
      have h1 := (hq b (by simp only [List.mem_append] at hq1 ⊢; simpa [or_comm] using hq1)).1
      have hb' : b ∈ oa ++ (o1 ++ ob) := by simp only [List.mem_append] at hb ⊢; exact hb.imp id .inr
      rcases h1 with h1 | h1
      · rcases List.mem_append.1 hb with h2 | h2
        · exact (List.nodup_append.1 hndT).2.2 b h2 b (by simp [h1]) rfl
        · exact (List.nodup_append.1 (List.nodup_append.1 hndT).2.1).2.2 b h1 b h2 rfl
      · have := (hoT b hb').1; omega
    have hperm : ((oa ++ (q1 ++ ob)) ++ p1).Perm ((oa ++ ob) ++ (q1 ++ p1)) := by
      have e : (q1 ++ ob).Perm (ob ++ q1) := List.perm_append_comm
      simpa [List.append_assoc] using ((e.append_left oa).append_right p1)
    exact hperm.nodup_iff.2 (List.nodup_append.2 ⟨hn2, hn1, fun b hb c hc e => hdis b hb (e ▸ hc)⟩)
  · have : b ∈ oa ++ ob ∨ b ∈ p1 ++ (q1 ++ []) := by
      simp only [List.mem_append, List.not_mem_nil, or_false] at hb ⊢
      rcases hb with (h | h | h) | h
      · exact .inl (.inl h)
      · exact .inr (.inr h)
      · exact .inl (.inr h)
      · exact .inr (.inl h)
    rcases this with h | h
    · have h2 := hold b h
      refine ⟨.inl (by simp only [List.mem_append] at h ⊢; simp only [List.not_mem_nil, or_false]; exact h.imp id .inr), h2⟩
    · obtain ⟨h1, h2, h3⟩ := hq b h
      exact ⟨h1.imp (fun h => by simp [h]) id, h2, h3⟩
theorem ownJ_stab {g g' : Gh} {w w' : World} {cs : List AV} {vs : List Value} {o : List Nat} (hI : ∀ b, g.Imm b → g'.Imm b) (hM : ∀ b, g.Im b → g'.Im b) (hw : ∀ b, b ∈ o ∨ g.imm b → w'.heap[b]? = w.heap[b]?)
    (h : Rs (gh0 w g.Imm g.Im) V0 w cs vs o) : Rs (gh0 w' g'.Imm g'.Im) V0 w' cs vs o :=
  Rs_stab (g := gh0 w g.Imm g.Im) (g' := gh0 w' g'.Imm g'.Im) (W := []) hI hM (fun _ _ => rfl) _ _ _ (clrs_nil _) hw h
theorem op_build1_own (N : List Ent) (d t : Nat) {T e : TypeId} (z : Nat) (zv : Value) (av : AV) (cs : List AV) (hT : P.underlying T = some (.slice e)) (hz : (P.info? e).map (·.size) = some z)
    (hzv : (P.info? e).bind (·.zero) = some zv) (hok : cellsOk [] av = true) (hcs : vcells av = cs) (hl : cs.length = z) (h0 : 0 < z) (hsm : z ≤ 16777216) (hcl : closeds cs = true) :
    LOp P ⟨some d, .buildSlice T 1 #[(0, .tmp t)], ty, pos, aft, gd⟩ N [(t, av)] [(d, .hid (ownJ e z cs))] [.slot d] := by
  subst hcs
  refine LOp.core fun g V oN oT a w hd hp => ?_
  have hT' := hp.esT
  simp only [Es] at hT'
  obtain ⟨ot, o2', rfl, ⟨hR0, _⟩, rfl⟩ := hT'
  have he : a.eval (.tmp t) = V (.slot t) := by rw [hp.val]; rfl
  have hR : R g V w av (a.eval (.tmp t)) ot := by rw [he]; exact hR0
  obtain ⟨h1, hone⟩ := vcells_R (NT := []) (oNT := []) (g := g) (V := V) (w := w) rfl hok hR
  have hcl' : (a.eval (.tmp t)).cells.toList.length = z := by rw [Rs_length h1, hl]
  have hcs : (a.eval (.tmp t)).cells.size = z := by simpa using hcl'
  have hfill : Instr.fill (fun i => some (i * z, z)) ((Array.range (1 * z)).map (zv.cells[· % zv.cells.size]!)) [(0, a.eval (.tmp t))] = some (a.eval (.tmp t)).cells := by
    have hno : ¬ ((a.eval (.tmp t)).cells.size ≠ z ∨ 0 * z + (a.eval (.tmp t)).cells.size > ((Array.range (1 * z)).map (zv.cells[· % zv.cells.size]!)).size) := by
      rw [Array.size_map, Array.size_range, hcs]; omega
    unfold Instr.fill
    simp only []
    rw [if_neg (by rw [Bool.or_eq_true, decide_eq_true_iff, decide_eq_true_iff]; exact hno)]
    unfold Instr.fill
    congr 1
    have := fold_splice (a.eval (.tmp t)).cells.toList (0 * z) ((Array.range (1 * z)).map (zv.cells[· % zv.cells.size]!)) 0 (by simp [hcs])
    apply Array.toList_inj.1
    rw [← Array.foldl_toList, Array.toList_zipIdx]
    refine Eq.trans ?_ (this.trans ?_)
    · rfl
    · simp only [Nat.zero_mul, Nat.zero_add, List.take_zero, List.nil_append]
      rw [List.drop_eq_nil_of_le (by simp [hcs]), List.append_nil]
  have hr : (execOp a.eval ⟨some d, .buildSlice T 1 #[(0, .tmp t)], ty, pos, aft, gd⟩).run P w = .ok (.value (.slice (some ⟨w.heap.size, 0, none⟩) 1 1)) (w.alloc (.cells (a.eval (.tmp t)).cells e)) := by
    have hbig : ¬ 1 * z > 2 ^ 24 := by omega
    have hnz : ¬ 1 * z = 0 := by omega
    simp only [execOp, Instr.buildSlice, Sem.run_bind, run_underlying hT, Result.andThen_ok, run_sizeOf' hz, hbig, if_false, hnz, run_zero hzv]
    have e1 : ((#[(0, .tmp t)] : Array (Nat × Operand)).map fun (i, x) => (i, a.eval x)).toList = [(0, a.eval (.tmp t))] := by simp
    simp only [Sem.run_pure, Result.andThen_ok]
    rw [e1, hfill]
    simp [newRow, newObj]
    rfl
  have hown := World.ownsRow_lit (base := 0) (e := e) (size := z) w (a.eval (.tmp t)).cells 1 (Nat.zero_le _) (by simp only [maxLen]; omega) (by omega)
  refine (Yl.val hr).mono ?_
  rintro v w2 ⟨rfl, rfl⟩
  have hlt : d < g.n := hd d rfl
  have hot : ∀ b ∈ ot, b < w.heap.size ∧ ¬ g.imm b := fun b hb => hp.own b (by simp [hb])
  have hnd : ot.Nodup := by have := (List.nodup_append.1 hp.nodup).2.1; simpa using this
  refine ⟨g, setV V d _, w.heap.size :: ot, g.le_refl, fun b hb => .inl hb, fun b hb => Nat.lt_of_lt_of_le (hp.imm b (.inl hb)) (Chg.alloc [] w _).size, Chg.alloc _ _ _, fun l hl => setV_hit hl, fun u => setV_val hp.val hp.size hlt u, ?_, ?_, ?_⟩
  · refine ⟨w.heap.size :: ot, [], by simp, ⟨?_, trivial⟩, rfl⟩
    show R g _ _ (.hid (ownJ e z (vcells av))) (setV V d _ (.slot d)) _
    rw [setV_slot]
    have h3 := own_fl (g := gh0 (w.alloc (.cells (a.eval (.tmp t)).cells e)) g.Imm g.Im) (V := V0) hown hone
    have h2 : Rs (gh0 w g.Imm g.Im) V0 w (vcells av) (a.eval (.tmp t)).cells.toList ot := Rs_closed (g := g) (g' := gh0 w g.Imm g.Im) (V := V) (V' := V0) (fun _ h => h) _ _ _ hcl (.inl fun _ h => h) h1
    have h4 : (ownJ e z (vcells av)).P g.Imm g.Im (.slice (some ⟨w.heap.size, 0, none⟩) 1 1) (w.heap.size :: ot) (w.alloc (.cells (a.eval (.tmp t)).cells e)) :=
      ⟨_, [w.heap.size], ot, rfl, h3, ownJ_stab (g := g) (g' := g) (fun _ h => h) (fun _ h => h) (fun b hb => (Chg.alloc [] w _).block b (hb.elim (fun h => (hot b h).1) (fun h => hp.imm b h)) (by simp)) h2⟩
    simp only [R]
    exact h4
  · exact List.nodup_cons.2 ⟨fun h => Nat.lt_irrefl _ (hot _ h).1, hnd⟩
  · intro b hb
    rcases List.mem_cons.1 hb with rfl | hb
    · exact ⟨.inr (Nat.le_refl _), by simp, fun hi => Nat.lt_irrefl _ (hp.imm _ hi)⟩
    · exact ⟨.inl (by simp [hb]), Nat.lt_of_lt_of_le (hot b hb).1 (Chg.alloc [] w _).size, (hot b hb).2⟩
theorem op_callO (N : List Ent) (d : Nat) (f : FuncId) {cal : Operand} {args : Array Operand} {ats : Array TypeId} {T : TypeId} {z : Nat} {cs : List AV} (avs : List AV) (hcal : rd N cal = .v (.func (.func f) #[] #[])) (hrun : ∀ args w, (callFunc f args).run P w = .ok (.enter f args) w)
    (hav : args.toList.map (argv N) = avs) (hf : FnOK P f avs (.hid (ownJ T z cs))) (hcl : closeds cs = true) (hsh : noShrs cs = true) :
    LOp P ⟨some d, .call ⟨.value cal, args, ats⟩, ty, pos, aft, gd⟩ N [] [(d, .hid (ownJ T z cs))] [.slot d] := by
  refine LOp.fresh rfl rfl fun g V oN a w hp => ?_
  have hcv := rd_v hp.val hp.esN hcal
  have hr : (execOp a.eval ⟨some d, .call ⟨.value cal, args, ats⟩, ty, pos, aft, gd⟩).run P w = .ok (.enter f (args.map a.eval)) w := by
    simp [execOp, resolve, hcv, Deferred.ofValue, invoke, hrun]
  have hargs : Rs (gh0 w g.Imm (fun b => g.Im b ∨ b ∈ oN)) V0 w avs (args.toList.map a.eval) [] := by
    rw [← hav]
    exact argvs_R (g := g) (g' := gh0 w g.Imm (fun b => g.Im b ∨ b ∈ oN)) rfl (fun b hb => hb) hp.val hp.esN _
  have hc := hf g.Imm (fun b => g.Im b ∨ b ∈ oN) w _ (fun b hb => by
    rcases hb with hb | hb | hb
    · exact hp.imm b (.inl hb)
    · exact hp.imm b (.inr hb)
    · exact (hp.own b (by simp [hb])).1) hargs
  have ea : (args.toList.map a.eval).toArray = args.map a.eval := by rw [← Array.toList_map]
  rw [ea] at hc
  refine Yl.call hr (hc.mono ?_)
  rintro e w' ⟨x, rfl, hchg, Imm', o, hI, hnew, hR, hnd, hfr⟩
  refine ⟨x, rfl, hchg, { g with Imm := fun b => Imm' b }, o, ⟨rfl, rfl, rfl, rfl, rfl, hI, fun b hb => ?_⟩, hnew, ?_, hnd, hfr⟩
  · rcases hnew b hb with h | h
    · exact .inl h
    · exact .inr (.inl (Nat.le_trans hp.base h.1))
  · simp only [R] at hR ⊢
    obtain ⟨vs, o1, o2, rfl, h1, h2⟩ := hR
    exact ⟨vs, o1, o2, rfl, fl_gh V0 V0 (fun _ h => h) h1, Rs_closed (g := gh0 w' Imm' (fun b => g.Im b ∨ b ∈ oN)) (g' := gh0 w' Imm' g.Im) (V := V0) (V' := V0) (fun _ h => h) _ _ _ hcl (.inr hsh) h2⟩
end
section
variable {A : Type} {E : TypeId} {f : A → Value}
end
end Go.Abs
