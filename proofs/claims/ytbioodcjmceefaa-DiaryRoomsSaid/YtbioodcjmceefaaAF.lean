/-
  Moves that take; joins and loops as one step of a proof.
-/
import Derived.Test.YtbioodcjmceefaaAE
namespace Go.Abs

section
variable {P : Program} {ty : TypeId} {pos : String} {aft : Array Edge} {gd : Option (Nat × Bool)}

theorem LOp.take {o : Oper} {N : List Ent} {d t : Nat} {x : Operand} {av : AV} (ho : o.dst = some d) (hx : x = .tmp t) (hcl : clr [.slot d] av = true) (hr : ∀ (a : Act) (w : World), (execOp a.eval o).run P w = .ok (.value (a.eval x)) w) :
    LOp P o N [(t, av)] [(d, av)] [.slot d] := by
  subst hx
  refine LOp.core fun g V oN oT a w hd hp => ?_
  have hT := hp.esT
  simp only [Es] at hT
  obtain ⟨o1, o2, rfl, ⟨hR, ht⟩, rfl⟩ := hT
  refine (Yl.val (hr a w)).mono ?_
  rintro y w' ⟨rfl, rfl⟩
  have hlt : d < g.n := hd d ho
  have hy : a.eval (.tmp t) = V (.slot t) := by simp only [Act.eval, hp.val]
  let V1 : Loc → Value := fun l => match l with
    | .slot u => if u = d then V (.slot t) else V (.slot u)
    | .cell u i => if u = d then V (.cell t i) else V (.cell u i)
  have hV1 : ∀ l, hit [.slot d] l = false → V1 l = V l := by
    intro l hl
    have := hit_slot d l hl
    cases l with
    | slot u => simp only at this; simp [V1, this]
    | cell u i => simp only at this; simp [V1, this]
  refine ⟨g, V1, o1, g.le_refl, fun b hb => .inl hb, fun b hb => hp.imm b (.inl hb), Chg.refl _ _, hV1, ?_, ?_, ?_, ?_⟩
  · intro u
    rw [ho, hy, put_getD a d u _ (by rw [hp.size]; exact hlt)]
    simp only [V1]
    split
    · rfl
    · exact hp.val u
  · refine ⟨o1, [], by simp, ⟨?_, ?_⟩, rfl⟩
    · show R g V1 _ av (V1 (.slot d)) o1
      rw [show V1 (.slot d) = V (.slot t) by simp [V1]]
      exact R_stab (W := [.slot d]) (fun _ h => h) (fun _ h => h) hV1 av _ o1 hcl (fun _ _ => rfl) hR
    · cases av <;> try trivial
      case box T cs =>
        intro b hb i hi
        dsimp only at hb ht ⊢
        rw [show V1 (.slot d) = V (.slot t) by simp [V1]] at hb
        rw [show V1 (.cell d i) = V (.cell t i) by simp [V1]]
        exact ht b hb i hi
  · have := (List.nodup_append.1 hp.nodup).2.1; simpa using this
  · intro b hb
    have := hp.own b (by simp [hb])
    exact ⟨.inl (by simp [hb]), this.1, this.2⟩
theorem op_move_take (N : List Ent) (d t : Nat) (av : AV) (hcl : clr [.slot d] av = true) : LOp P ⟨some d, .move (.tmp t), ty, pos, aft, gd⟩ N [(t, av)] [(d, av)] [.slot d] :=
  LOp.take rfl rfl hcl fun a w => by simp [execOp, pure]
theorem op_assign_take (N : List Ent) (d t : Nat) (av : AV) (hcl : clr [.slot d] av = true) : LOp P ⟨some d, .assign (.tmp t), ty, pos, aft, gd⟩ N [(t, av)] [(d, av)] [.slot d] :=
  LOp.take rfl rfl hcl fun a w => by simp [execOp, pure]

theorem op_extract_take (N : List Ent) (t d : Nat) {i : Nat} (cs : List AV) (av : AV) (hi : cs.getD i .any = av) (hlt : i < cs.length) (hcl : clr [.slot d] av = true) (hcs : clrs [.slot d] (cs.set i .any) = true) (hdt : d ≠ t) (hnb : noBox av = true) :
    LOp P ⟨some d, .extract (.tmp t) i, ty, pos, aft, gd⟩ N [(t, .tup cs)] [(t, .tup (cs.set i .any)), (d, av)] [.slot d] := by
  refine LOp.core fun g V oN oT a w hd hp => ?_
  have hT := hp.esT
  simp only [Es] at hT
  obtain ⟨ob, o2, rfl, ⟨hR, _⟩, rfl⟩ := hT
  simp only [R] at hR
  obtain ⟨xs, hx, hrs⟩ := hR
  have hlen := Rs_length hrs
  obtain ⟨o1, o3, hperm, h1, h3⟩ := Rs_setAny i hrs hlt
  rw [hi] at h1
  have hix : i < xs.length := by omega
  have hrun : (execOp a.eval ⟨some d, .extract (.tmp t) i, ty, pos, aft, gd⟩).run P w = .ok (.value (xs.getD i undef)) w := by
    have : a.eval (.tmp t) = .tuple xs.toArray := by simp only [Act.eval, ← hp.val]; exact hx
    simp [execOp, this, Instr.extract, hix]
  refine (Yl.val hrun).mono ?_
  rintro y w' ⟨rfl, rfl⟩
  have hlt2 : d < g.n := hd d rfl
  have hnd : (o1 ++ o3).Nodup := hperm.nodup_iff.1 (by have := (List.nodup_append.1 hp.nodup).2.1; simpa using this)
  have hmem : ∀ b, b ∈ o3 ++ o1 → b ∈ ob := fun b hb => hperm.mem_iff.2 (by simp at hb ⊢; exact hb.symm)
  refine ⟨g, setV V d _, o3 ++ o1, g.le_refl, fun b hb => .inl hb, fun b hb => hp.imm b (.inl hb), Chg.refl _ _, fun l hl => setV_hit hl, fun u => setV_val hp.val hp.size hlt2 u, ?_, (List.perm_append_comm.nodup_iff).1 hnd, ?_⟩
  · have hVt : setV V d (xs.getD i undef) (.slot t) = V (.slot t) := by simp only [setV]; rw [if_neg fun e => hdt e.symm]
    refine ⟨o3, o1, rfl, ⟨?_, trivial⟩, o1, [], by simp, ⟨?_, ?_⟩, rfl⟩
    · show R g _ _ (.tup _) (setV V d _ (.slot t)) o3
      rw [hVt]
      simp only [R]
      exact ⟨xs, hx, Rs_stab (W := [.slot d]) (fun _ h => h) (fun _ h => h) (fun l hl => setV_hit hl) _ _ _ hcs (fun _ _ => rfl) h3⟩
    · show R g _ _ av (setV V d _ (.slot d)) o1
      rw [setV_slot]
      exact R_stab (W := [.slot d]) (fun _ h => h) (fun _ h => h) (fun l hl => setV_hit hl) av _ o1 hcl (fun _ _ => rfl) h1
    · cases av <;> first | trivial | (simp [noBox] at hnb)
  · intro b hb
    have := hp.own b (by simp [hmem b hb])
    exact ⟨.inl (by simp [hmem b hb]), this.1, this.2⟩
end

section
variable {P : Program} {Q : Exit → Act → World → Prop} {g0 : Gh}
theorem ht_joinS {S A R : Type} {m : Option (S ⊕ A)} {k : S → Option R} {e : A → Option R} {r : R} {c : Code} {es : List Ent} (h : bindS m k e = some r) (I : S → List Ent) (hk : ∀ s, k s = some r → PT Q g0 .normal (I s))
    (hc : ∀ u, m = some u → (∀ s, u = .inl s → PT Q g0 .normal (I s)) → (∀ a, u = .inr a → e a = some r) → HT P Q g0 c es) : HT P Q g0 c es := by
  obtain ⟨u, hm, hl, hr⟩ := bindS_some h
  exact hc u hm (fun s hs => hk s (hl s hs)) hr

theorem ht_loopS {S T A R : Type} {step : S → Option (S ⊕ (T ⊕ A))} {fuel : Nat} {s0 : S} {k : T → Option R} {e : A → Option R} {r : R} {id : Nat} {body : Code} (h : bindS (loopF step fuel s0) k e = some r) (I : S → List Ent) (J : T → List Ent)
    (hk : ∀ s, k s = some r → PT Q g0 .normal (J s))
    (hround : ∀ u, (∀ s, u = .inl s → PT Q g0 .normal (J s)) → (∀ a, u = .inr a → e a = some r) → ∀ s rr, step s = some rr → (∀ o, rr = .inr o → o = u) →
      HT P (Exit.then (fun a w => ∃ s' g, rr = .inl s' ∧ g0.le g ∧ Sat g (I s') a w) (Exit.inBlock id Q)) g0 body (I s)) : HT P Q g0 (.block id (.loop body)) (I s0) := by
  obtain ⟨u, hm, hl, hr⟩ := bindS_some h
  exact ht_block (ht_loop I fuel s0 u hm fun s rr hst hout => hround u (fun s hs => hk s (hl s hs)) hr s rr hst hout)
/-- A region that is met on several ways, all of which end alike. -/
theorem ht_mid1 {c : Code} {es es' : List Ent} (h2 : PT Q g0 .normal es') (h1 : PT Q g0 .normal es' → HT P Q g0 c es) : HT P Q g0 c es := h1 h2
end
end Go.Abs
