/-
  Copies into own rows; structs put together and taken apart; texts and bytes; what is frozen.
-/
import Derived.Test.YtbioodcjmceefaaAA
import Derived.Laws.BytesArg
namespace Go.Abs

section
variable {P : Program} {ty : TypeId} {pos : String} {aft : Array Edge} {gd : Option (Nat × Bool)}

theorem run_copy_fl {w : World} {dT sT ct e : TypeId} {n m c2 : Nat} {x : Value} {xs ys : List Value} {A : Option Addr} (hu : P.underlying dT = some (.slice e)) (hz : (P.info? e).map (·.size) = some 1)
    (hown : w.ownsRow 0 e 1 x n xs) (hy : ys.length = m) (hr : reads w A ys) (h1 : ∀ u ∈ ys, u.oneCell' = true) :
    ∃ w', (Builtin.copy_ #[dT, sT] ct #[x, .slice A m c2]).run P w = .ok (goInt (min m n : Nat)) w' ∧ w'.ownsRow 0 e 1 x n (ys.take (min m n) ++ xs.drop (min m n)) ∧ Chg x.ownBlock.toList w w' := by
  have hxl : xs.length = n := by simpa using hown.1
  have hst0 : ∀ (a : Addr), storeCells a [] = pure () := fun a => by simp [storeCells]
  rcases hown.2 with ⟨rfl, rfl⟩ | ⟨b, cap, cur, rfl, _, hb, hnc, hcm, hcs, htk⟩
  · have : xs = [] := List.eq_nil_of_length_eq_zero hxl
    subst this
    refine ⟨w, ?_, by simpa using hown, Chg.refl _ _⟩
    cases A with
    | none => simp [Builtin.copy_, run_underlying hu, Builtin.lenOf, Builtin.firstCells, run_sizeOf' hz]
    | some a => simp [Builtin.copy_, run_underlying hu, Builtin.lenOf, Builtin.firstCells, run_sizeOf' hz, loadCells, loadCellsFrom]
  · cases A with
    | none =>
      have : ys = [] := by
        apply Classical.byContradiction
        intro hne
        obtain ⟨ad, e, _⟩ := hr hne
        cases e
      subst this
      simp at hy; subst hy
      refine ⟨w, ?_, by simpa using hown, Chg.refl _ _⟩
      simp [Builtin.copy_, run_underlying hu, Builtin.lenOf, Builtin.firstCells, run_sizeOf' hz, storeCells]
    | some a =>
      have hl : (ys.take (min m n)).length = min m n := by simp; omega
      have hrun := run_copy_row (P := P) w dT sT ct e b 0 n cap a m c2 cur e (ys.take (min m n)) hu hz hb (by rw [hl])
        (fun j v hj => by
          rw [List.getElem?_take] at hj
          split at hj
          · obtain ⟨ad, e, hc⟩ := hr (fun e => by subst e; simp at hj)
            cases e
            exact hc j v hj
          · cases hj)
        (by rw [hl]; have : n * 1 ≤ cap * 1 := Nat.mul_le_mul_right _ hnc; omega) (fun v hv => h1 v (List.mem_of_mem_take hv))
      rw [hl] at hrun
      refine ⟨_, hrun, ?_, setRow_chg _ _ _⟩
      have hw := own_write (w := w) (vs := ys.take (min m n)) 0 hb hnc hcm hcs htk (by simpa using hxl) (by omega)
      simp only [hl, List.take_zero, List.nil_append, Nat.zero_add] at hw ⊢
      exact hw

/-- A copy into the own row of a slot. -/
theorem op_copy (N : List Ent) (d t : Nat) {T T2 e t' : TypeId} (x y : Operand) {my : Md} {xs ys : List Value} (hu : P.underlying T = some (.slice e)) (hz : (P.info? e).map (·.size) = some 1)
    (hx : dupOp (N ++ [(t, .fl (.own e) 1 xs)]) x = .same (.slot t)) (hy : rd N y = .fl my 1 ys) (hdt : d ≠ t) :
    LOp P ⟨some d, .call ⟨.builtin .copy, #[x, y], #[T, T2]⟩, t', pos, aft, gd⟩ N [(t, .fl (.own e) 1 xs)]
      [(t, .fl (.own e) 1 (ys.take (min ys.length xs.length) ++ xs.drop (min ys.length xs.length))), (d, .v (.int .i64 ((min ys.length xs.length : Nat) : Int)))] [.slot d] := by
  refine LOp.core fun g V oN oT a w hd hp => ?_
  have hT' := hp.esT
  simp only [Es] at hT'
  obtain ⟨ob, o2, rfl, ⟨hR, _⟩, rfl⟩ := hT'
  have hax := dupOp_R hp.val (Es_append.2 ⟨oN, _, rfl, hp.esN, hp.esT⟩) x
  rw [hx] at hax
  simp only [R] at hax hR
  obtain ⟨a0, n0, c0, ⟨h3, _⟩, hl0, hone0, _, hown, hob⟩ := hR
  obtain ⟨o', _, hr⟩ := rd_R hp.val hp.esN y
  rw [hy] at hr
  simp only [R] at hr
  obtain ⟨A, m', c, ⟨he, _⟩, hl, hone, hrd, _⟩ := hr
  simp only [Nat.mul_one] at hl hl0
  obtain ⟨w', hrun, hown', hchg⟩ := run_copy_fl (P := P) (sT := T2) (ct := t') (c2 := c) hu hz hown hl hrd hone
  have hrun' : (execOp a.eval ⟨some d, .call ⟨.builtin .copy, #[x, y], #[T, T2]⟩, t', pos, aft, gd⟩).run P w = .ok (.value (goInt (min m' n0 : Nat))) w' := by
    have h4 : a.eval x = V (.slot t) := hax.1
    simp [execOp, resolve, invoke, builtin, he, h4, hrun]
  refine (Yl.val hrun').mono ?_
  rintro v w2 ⟨rfl, rfl⟩
  have hlt : d < g.n := hd d rfl
  have hchg' : Chg ob w w2 := by rw [hob]; exact hchg
  rw [hl, hl0]
  refine ⟨g, setV V d _, ob, g.le_refl, fun b hb => .inl hb, fun b hb => Nat.lt_of_lt_of_le (hp.imm b (.inl hb)) hchg.size, by simpa using hchg', fun l hl => setV_hit hl, fun u => setV_val hp.val hp.size hlt u, ?_, ?_, ?_⟩
  · refine ⟨ob, [], by simp, ⟨?_, trivial⟩, [], [], rfl, ⟨?_, trivial⟩, rfl⟩
    · show R g _ _ _ (setV V d _ (.slot t)) _
      have : setV V d (goInt (min m' n0 : Nat)) (.slot t) = V (.slot t) := by simp only [setV]; rw [if_neg fun e => hdt e.symm]
      rw [this, hob]
      refine own_fl hown' fun u hu => ?_
      rcases List.mem_append.1 hu with h | h
      · exact hone u (List.mem_of_mem_take h)
      · exact hone0 u (List.mem_of_mem_drop h)
    · show R g _ _ _ (setV V d _ (.slot d)) _
      rw [setV_slot]; simp [R, goInt]
  · exact (List.nodup_append.1 (List.nodup_append.1 hp.nodup).2.1).1
  · intro b hb
    have := hp.own b (by simp [hb])
    exact ⟨.inl (by simp [hb]), Nat.lt_of_lt_of_le this.1 hchg.size, this.2⟩

/-- Where the values of operands come from: copied, or taken from their slots. -/
inductive Src (N : List Ent) : List Operand → List Ent → List AV → Prop
  | nil : Src N [] [] []
  | copy (x : Operand) {r : List Operand} {TV : List Ent} {avs : List AV} (h : Src N r TV avs) : Src N (x :: r) TV (dupOp N x :: avs)
  | take (t : Nat) (av : AV) {r : List Operand} {TV : List Ent} {avs : List AV} (h : Src N r TV avs) : Src N (.tmp t :: r) ((t, av) :: TV) (av :: avs)

theorem Src_R {g : Gh} {V : Loc → Value} {w : World} {N : List Ent} {oN : List Nat} {a : Act} (hv : ∀ t, V (.slot t) = a.tmps.getD t undef) (hN : Es g V w N oN) :
    ∀ {xs : List Operand} {TV : List Ent} {avs : List AV}, Src N xs TV avs → ∀ {oV : List Nat}, Es g V w TV oV → Rs g V w avs (xs.map a.eval) oV := by
  intro xs TV avs h
  induction h with
  | nil => intro oV hV; simp only [Es] at hV; subst hV; simp [Rs]
  | copy x h ih =>
    intro oV hV
    simp only [List.map_cons, Rs]
    exact ⟨_, _, [], oV, rfl, rfl, dupOp_R hv hN x, ih hV⟩
  | take t av h ih =>
    intro oV hV
    simp only [Es] at hV
    obtain ⟨o1, o2, rfl, ⟨hr, _⟩, h2⟩ := hV
    simp only [List.map_cons, Rs]
    exact ⟨_, _, o1, o2, rfl, rfl, by simp only [Act.eval, ← hv]; exact hr, ih h2⟩

/-- The parts laid into the zero, one after the other. -/
def aFill (place : Nat → Option (Nat × Nat)) : List AV → List (Nat × AV) → Option (List AV)
  | cs, [] => some cs
  | cs, (i, av) :: r =>
    match place i with
    | none => none
    | some (off, s) => if Nat.beq (vcells av).length s && Nat.ble (off + s) cs.length then aFill place (cs.take off ++ (vcells av ++ cs.drop (off + s))) r else none

theorem fold_splice (vs : List Value) : ∀ (off : Nat) (xs : Array Value) (k : Nat), off + k + vs.length ≤ xs.size →
    ((vs.zipIdx k).foldl (fun (cs : Array Value) p => cs.setIfInBounds (off + p.2) p.1) xs).toList = xs.toList.take (off + k) ++ (vs ++ xs.toList.drop (off + k + vs.length)) := by
  induction vs with
  | nil => intro off xs k _; simp
  | cons v vs ih =>
    intro off xs k h
    simp only [List.zipIdx_cons, List.foldl_cons, List.length_cons] at h ⊢
    rw [ih off _ (k + 1) (by simp; omega)]
    have hlt : off + k < xs.toList.length := by simp; omega
    simp only [Array.toList_setIfInBounds]
    have e1 : off + (k + 1) = off + k + 1 := by omega
    rw [e1, List.take_add_one, List.getElem?_set]
    simp only [if_true]
    rw [List.take_set_of_le (Nat.le_refl _)]
    have e2 : (xs.toList.set (off + k) v).drop (off + k + 1 + vs.length) = xs.toList.drop (off + k + (vs.length + 1)) := by
      rw [List.drop_set_of_lt (by omega)]
      congr 1; omega
    rw [e2]
    have hlt' : off + k < xs.size := by simpa using hlt
    simp [hlt']

theorem fill_aFill {g : Gh} {V : Loc → Value} {w : World} {NT : List Ent} {oNT : List Nat} (hes : Es g V w NT oNT) (place : Nat → Option (Nat × Nat)) :
    ∀ (parts : List (Nat × AV)) (cs : List AV) (xs : List Value) (o : List Nat) (vals : List Value) (oV : List Nat) (cs' : List AV), (∀ p ∈ parts, cellsOk NT p.2 = true) → Rs g V w cs xs o → Rs g V w (parts.map (·.2)) vals oV →
      aFill place cs parts = some cs' → ∃ xs' o' o'', Instr.fill place xs.toArray ((parts.map (·.1)).zip vals) = some xs'.toArray ∧ Rs g V w cs' xs' o' ∧ (o ++ oV).Perm (o' ++ o'')
  | [], cs, xs, o, vals, oV, cs', _, hc, hv, hf => by
    simp only [List.map_nil, Rs] at hv
    obtain ⟨rfl, rfl⟩ := hv
    simp only [aFill, Option.some.injEq] at hf
    subst hf
    exact ⟨xs, o, [], by simp [Instr.fill], hc, by simp⟩
  | (i, av) :: r, cs, xs, o, vals, oV, cs', hok, hc, hv, hf => by
    simp only [List.map_cons, Rs] at hv
    obtain ⟨x, vals', o1, o2, rfl, rfl, hx, hr⟩ := hv
    simp only [aFill] at hf
    split at hf
    · cases hf
    · rename_i off s hp
      split at hf
      · rename_i hb
        simp only [Bool.and_eq_true] at hb
        have hb1 := Nat.eq_of_beq_eq_true hb.1
        have hb2 := Nat.le_of_ble_eq_true hb.2
        obtain ⟨hvc, hone⟩ := vcells_R hes (hok (i, av) List.mem_cons_self) hx
        have hvl := Rs_length hvc
        have hcl := Rs_length hc
        have hsplit : cs = cs.take off ++ ((cs.drop off).take s ++ cs.drop (off + s)) := by
          rw [← List.drop_drop, List.take_append_drop, List.take_append_drop]
        rw [hsplit] at hc
        obtain ⟨x1, x23, p1, p23, hx123, hp123, hc1, hc23⟩ := Rs_append.1 hc
        obtain ⟨x2, x3, p2, p3, rfl, rfl, hc2, hc3⟩ := Rs_append.1 hc23
        have l1 : x1.length = off := by rw [Rs_length hc1]; simp; omega
        have l2 : x2.length = s := by rw [Rs_length hc2]; simp; omega
        have hnew := Rs_append.2 ⟨_, _, _, _, rfl, rfl, hc1, Rs_append.2 ⟨_, _, _, _, rfl, rfl, hvc, hc3⟩⟩
        obtain ⟨xs', o', o'', hfill, hrs, hperm⟩ := fill_aFill hes place r _ _ _ vals' o2 cs' (fun q hq => hok q (List.mem_cons_of_mem _ hq)) hnew hr hf
        refine ⟨xs', o', o'' ++ p2, ?_, hrs, ?_⟩
        · simp only [List.map_cons, List.zip_cons_cons, Instr.fill, hp]
          rw [if_neg]
          · rw [← hfill]
            congr 1
            have hsz : x.cells.size = s := by rw [← hb1, ← hvl]; simp
            have := fold_splice x.cells.toList off xs.toArray 0 (by simp [hsz]; omega)
            apply Array.ext'
            have hz : (x.cells.zipIdx.foldl (fun (cs : Array Value) (p : Value × Nat) => cs.setIfInBounds (off + p.2) p.1) xs.toArray) = (x.cells.toList.zipIdx 0).foldl (fun (cs : Array Value) p => cs.setIfInBounds (off + p.2) p.1) xs.toArray := by
              rw [← Array.foldl_toList]; simp
            show (x.cells.zipIdx.foldl (fun (cs : Array Value) (p : Value × Nat) => cs.setIfInBounds (off + p.2) p.1) xs.toArray).toList = _
            rw [hz, this]
            simp only [Nat.add_zero, Array.length_toList, hsz]
            have e1 : xs.take off = x1 := by rw [hx123, ← l1]; simp
            have e3 : xs.drop (off + s) = x3 := by rw [hx123, ← l1, ← l2, ← List.append_assoc, ← List.length_append]; simp
            rw [e1, e3]
          · have hsz : x.cells.size = s := by rw [← hb1, ← hvl]; simp
            simp [hsz]; omega
        · rw [hp123]
          rw [List.perm_iff_count] at hperm ⊢
          intro c
          have := hperm c
          simp only [List.count_append] at this ⊢
          omega
      · cases hf

/-- A struct is put together. -/
theorem op_build (N TV : List Ent) (d : Nat) {T : TypeId} {fs : Array Field} {parts : Array (Nat × Operand)} (zv : Value) (sizes : List Nat) (avs : List AV) (cs' : List AV) (hT : P.underlying T = some (.struct fs)) (hz : (P.info? T).bind (·.zero) = some zv)
    (hsz : fs.toList.map (fun f => (P.info? f.type).map (·.size)) = sizes.map some) (hsrc : Src N (parts.toList.map (·.2)) TV avs) (hok : avs.all (cellsOk (N ++ TV)) = true)
    (hf : aFill (fun i => ((fs.toList.map (·.offset)).zip sizes)[i]?) (zv.cells.toList.map .v) ((parts.toList.map (·.1)).zip avs) = some cs') (hcl : clrs [.slot d] cs' = true) :
    LOp P ⟨some d, .build T parts, ty, pos, aft, gd⟩ N TV [(d, .agg cs')] [.slot d] := by
  refine LOp.core fun g V oN oT a w hd hp => ?_
  have hR := Src_R hp.val hp.esN hsrc hp.esT
  have hNT : Es g V w (N ++ TV) (oN ++ oT) := Es_append.2 ⟨_, _, rfl, hp.esN, hp.esT⟩
  have hlen : avs.length = (parts.toList.map (·.2)).length := by have := Rs_length hR; simpa using this.symm
  have hm2 : (((parts.toList.map (·.1)).zip avs).map (·.2)) = avs := by rw [List.map_snd_zip]; simp at hlen ⊢; omega
  have hm1 : (((parts.toList.map (·.1)).zip avs).map (·.1)) = parts.toList.map (·.1) := by rw [List.map_fst_zip]; simp at hlen ⊢; omega
  obtain ⟨xs', o', o'', hfill, hrs, hperm⟩ := fill_aFill hNT (fun i => ((fs.toList.map (·.offset)).zip sizes)[i]?) ((parts.toList.map (·.1)).zip avs) (zv.cells.toList.map .v) zv.cells.toList [] ((parts.toList.map (·.2)).map a.eval) oT cs'
    (fun p hp => by
      have h1 : p.2 ∈ avs := by rw [← hm2]; exact List.mem_map_of_mem hp
      exact List.all_eq_true.1 hok _ h1) (Rs_vals _) (by rw [hm2]; exact hR) hf
  rw [hm1] at hfill
  have hplaces : ∀ (w : World), (fs.mapM fun f => (do pure (f.offset, ← sizeOf f.type) : Sem (Nat × Nat))).run P w = .ok ((fs.toList.map (·.offset)).zip sizes).toArray w := by
    intro w
    rw [Array.mapM_eq_mapM_toList]
    have hfun : (fun (f : Field) => (do pure (f.offset, ← sizeOf f.type) : Sem (Nat × Nat))) = fun f => Prod.mk f.offset <$> sizeOf f.type := by funext f; simp
    have : ∀ (l : List Field) (ss : List Nat), l.map (fun f => (P.info? f.type).map (·.size)) = ss.map some → (l.mapM fun f => (Prod.mk f.offset <$> sizeOf f.type : Sem (Nat × Nat))).run P w = .ok ((l.map (·.offset)).zip ss) w := by
      intro l
      induction l with
      | nil => intro ss h; simp
      | cons f l ih =>
        intro ss h
        cases ss with
        | nil => simp at h
        | cons s ss =>
          simp only [List.map_cons, List.cons.injEq] at h
          simp [List.mapM_cons, run_sizeOf' h.1, ih ss h.2]
    rw [hfun]
    simp [this _ _ hsz]
  have hpe : (parts.map fun (i, x) => (i, a.eval x)).toList = (parts.toList.map (·.1)).zip ((parts.toList.map (·.2)).map a.eval) := by
    rw [Array.toList_map]
    generalize parts.toList = l
    induction l with
    | nil => rfl
    | cons p l ih => simp only [List.map_cons, List.zip_cons_cons, ih]
  have hrun : (execOp a.eval ⟨some d, .build T parts, ty, pos, aft, gd⟩).run P w = .ok (.value (.agg xs'.toArray)) w := by
    have hfe : (fun (i : Nat) => (((fs.toList.map (·.offset)).zip sizes).toArray[i]? : Option (Nat × Nat))) = fun (i : Nat) => ((fs.toList.map (·.offset)).zip sizes)[i]? := by funext i; simp
    simp only [execOp, Instr.build, Sem.run_bind, run_zero hz, Result.andThen_ok, run_underlying hT, hplaces, hpe, hfe]
    have hz2 : zv.cells.toList.toArray = zv.cells := by simp
    rw [hz2, List.map_map] at hfill
    simp [hfill]
  refine (Yl.val hrun).mono ?_
  rintro x w' ⟨rfl, rfl⟩
  have hlt : d < g.n := hd d rfl
  simp only [List.nil_append] at hperm
  have hnd : o'.Nodup := (List.nodup_append.1 (hperm.nodup_iff.1 (List.nodup_append.1 hp.nodup).2.1)).1
  have hsub : ∀ b ∈ o', b ∈ oT := fun b hb => hperm.mem_iff.2 (by simp [hb])
  refine ⟨g, setV V d _, o', g.le_refl, fun b hb => .inl hb, fun b hb => hp.imm b (.inl hb), Chg.refl _ _, fun l hl => setV_hit hl, fun u => setV_val hp.val hp.size hlt u, ?_, hnd, ?_⟩
  · refine ⟨o', [], by simp, ⟨?_, trivial⟩, rfl⟩
    show R g _ _ (.agg cs') (setV V d _ (.slot d)) o'
    rw [setV_slot]
    simp only [R]
    exact ⟨xs', rfl, Rs_stab (W := [.slot d]) (fun _ h => h) (fun _ h => h) (fun l hl => setV_hit hl) _ _ _ hcl (fun _ _ => rfl) hrs⟩
  · intro b hb
    have := hp.own b (by simp [hsub b hb])
    exact ⟨.inl (hsub b hb), this.1, this.2⟩

/-- A field of a struct's value. -/
theorem op_field (N : List Ent) (d : Nat) {T : TypeId} (x : Operand) (i : Nat) {fs : Array Field} {f : Field} {td : TypeDesc} (cs : List AV) (av : AV) (hT : P.underlying T = some (.struct fs)) (hf : fs[i]? = some f) (hu : P.underlying f.type = some td) (ha : isAggD td = false)
    (hx : dupOp N x = .agg cs) (hc : cs.getD f.offset .any = av) (hlt : f.offset < cs.length) (hcl : clr [.slot d] av = true) (hb : noBox av = true) :
    LOp P ⟨some d, .field T x i, ty, pos, aft, gd⟩ N [] [(d, dupCell av)] [.slot d] := by
  refine LOp.value rfl ?_ (by cases av <;> first | rfl | (rename_i m _ _; cases m <;> rfl) | (rename_i m _ _ _; cases m <;> rfl)) fun g V oN a w hp => ?_
  · cases av <;> first | rfl | exact hcl | (rename_i m _ _; cases m <;> rfl) | (rename_i m _ _ _; cases m <;> rfl)
  have hR := dupOp_R hp.val hp.esN x
  rw [hx] at hR
  simp only [R] at hR
  obtain ⟨xs, he, hrs⟩ := hR
  have hl := Rs_length hrs
  obtain ⟨o2, _, h2⟩ := Rs_get f.offset hrs hlt
  rw [hc] at h2
  have hix : f.offset < xs.length := by omega
  refine ⟨xs.getD f.offset undef, ?_, dupCell_R h2⟩
  simp [execOp, Instr.field, run_underlying hT, hf, he, asAgg, part, run_isAgg hu, ha, hix]

/-- Bytes as a text. -/
theorem op_bytes_str (N : List Ent) (d : Nat) {s t e : TypeId} (x : Operand) {m : Md} (l : List Int) (hs : P.underlying s = some (.slice e)) (ht : P.underlying t = some .string) (he : P.underlying e = some (.int .u8))
    (hx : rd N x = .fl m 1 (l.map (.int .u8))) :
    LOp P ⟨some d, .convert s t x, ty, pos, aft, gd⟩ N [] [(d, .v (.string ⟨(l.map fun n => UInt8.ofNat n.toNat).toArray⟩))] [.slot d] := by
  refine LOp.v rfl fun g V oN a w hp => ?_
  obtain ⟨o', _, hr⟩ := rd_R hp.val hp.esN x
  rw [hx] at hr
  simp only [R] at hr
  obtain ⟨A, n, c, ⟨hv, _⟩, hl, _, hrd, _⟩ := hr
  have hrun : (convert s t (a.eval x)).run P w = .ok (.string ⟨(l.map fun n => UInt8.ofNat n.toNat).toArray⟩) w := by
    rw [hv]
    cases A with
    | none =>
      have : l = [] := by
        apply Classical.byContradiction
        intro hne
        obtain ⟨ad, e, _⟩ := hrd (by simpa using hne)
        cases e
      subst this
      rw [run_convert_bytes_nil w s e hs he n c t ht]
      rfl
    | some ad =>
      have hload : (loadCells ad n).run P w = .ok (l.map (Value.int .u8)).toArray w := by
        by_cases hne : l = []
        · subst hne
          simp at hl; subst hl
          simp [loadCells, loadCellsFrom]
        · obtain ⟨ad', e, hc⟩ := hrd (by simpa using hne)
          cases e
          have := run_loadCells_list (P := P) w ad (l.map (Value.int .u8)) hc
          simpa [show l.length = n by simpa using hl] using this
      rw [run_convert_bytes_string w s t e _ n c hs he ht, run_bytesToString w _ n c l hload, foldl_push_bytes]
      simp [ByteArray.empty, ByteArray.emptyWithCapacity]
      rfl
  simp [execOp, hrun]
end
end Go.Abs
