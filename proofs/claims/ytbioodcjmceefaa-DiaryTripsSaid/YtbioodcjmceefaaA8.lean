/-
  Operations on rows: elements written, rows made, appended to, copied, parted.
-/
import Derived.Test.YtbioodcjmceefaaA7
namespace Go.Abs

section
variable {P : Program}

theorem own_parts {w : World} {E : TypeId} {z n : Nat} {x : Value} {xs : List Value} (h : w.ownsRow 0 E z x n xs) (hne : xs ≠ []) :
    ∃ b c cur, x = .slice (some ⟨b, 0, none⟩) n c ∧ w.heap[b]? = some (.cells cur E (0, 0)) ∧ n ≤ c ∧ c ≤ maxLen ∧ cur.size = c * z ∧ cur.toList.take (n * z) = xs ∧ xs.length = n * z := by
  rcases h.2 with ⟨_, h1⟩ | ⟨b, c, cur, h1, _, h2, h3, h4, h5, h6⟩
  · exact absurd (List.eq_nil_of_length_eq_zero (by rw [h.1, h1]; simp)) hne
  · exact ⟨b, c, cur, h1, h2, h3, h4, h5, h6, h.1⟩

/-- A row of the call's own, said as its entry's word. -/
theorem own_fl {g : Gh} {V : Loc → Value} {w : World} {E : TypeId} {z n : Nat} {x : Value} {xs : List Value} (h : w.ownsRow 0 E z x n xs) (h1 : ∀ u ∈ xs, u.oneCell' = true) :
    R g V w (.fl (.own E) z xs) x (x.ownBlock).toList := by
  simp only [R, modeOk]
  rcases h.2 with ⟨rfl, hn⟩ | ⟨b, c, cur, rfl, _, h2, h3, h4, h5, h6⟩
  · subst hn
    have : xs = [] := List.eq_nil_of_length_eq_zero (by rw [h.1]; simp)
    subst this
    exact ⟨none, 0, 0, ⟨rfl, Nat.le_refl _⟩, h.1, h1, fun hne => absurd rfl hne, h, trivial⟩
  · exact ⟨some ⟨b, 0, none⟩, n, c, ⟨rfl, h3⟩, h.1, h1, fun _ => ⟨⟨b, 0, none⟩, rfl, fun j u hu => h.cells (by simp [Value.ownBlock]) j u hu⟩, h, trivial⟩

theorem splice_get (l vs : List Value) (k i : Nat) (h : k + vs.length ≤ l.length) :
    (l.take k ++ (vs ++ l.drop (k + vs.length)))[i]? = if i < k then l[i]? else if i < k + vs.length then vs[i - k]? else l[i]? := by
  have e1 : (l.take k).length = k := by simp; omega
  by_cases h1 : i < k
  · rw [if_pos h1, List.getElem?_append_left (by omega), List.getElem?_take, if_pos h1]
  · rw [if_neg h1, List.getElem?_append_right (by omega), e1]
    by_cases h2 : i < k + vs.length
    · rw [if_pos h2, List.getElem?_append_left (by omega)]
    · rw [if_neg h2, List.getElem?_append_right (by omega), List.getElem?_drop]
      congr 1
      omega

/-- Elements of an own row are written. -/
theorem own_write {w : World} {E : TypeId} {z n c b : Nat} {cur : Array Value} {xs vs : List Value} (k : Nat) (hb : w.heap[b]? = some (.cells cur E (0, 0))) (hnc : n ≤ c) (hcm : c ≤ maxLen) (hsz : cur.size = c * z)
    (htk : cur.toList.take (n * z) = xs) (hl : xs.length = n * z) (hfit : k + vs.length ≤ xs.length) :
    (w.setRow b (cur.toList.take k ++ vs ++ cur.toList.drop (k + vs.length)).toArray).ownsRow 0 E z (.slice (some ⟨b, 0, none⟩) n c) n (xs.take k ++ (vs ++ xs.drop (k + vs.length))) := by
  have hcl : cur.toList.length = c * z := by simpa using hsz
  have hle : n * z ≤ c * z := Nat.mul_le_mul_right _ hnc
  refine ⟨?_, .inr ⟨b, c, _, rfl, Nat.zero_le _, setRow_heap w b cur _ E _ hb, hnc, hcm, ?_, ?_⟩⟩
  · simp only [List.length_append, List.length_take, List.length_drop]; omega
  · simp only [List.size_toArray, List.length_append, List.length_take, List.length_drop]; omega
  · subst htk
    simp only [List.length_take] at hl hfit
    apply List.ext_getElem?
    intro i
    simp only [List.append_assoc]
    rw [List.getElem?_take, splice_get _ _ _ _ (by omega), splice_get _ _ _ _ (by simp; omega)]
    simp only [List.getElem?_take]
    by_cases hi : i < n * z
    · simp [hi]
    · have h1 : ¬ i < k := by omega
      have h2 : ¬ i < k + vs.length := by omega
      simp [hi, h1, h2]

/-- What an operand's value is, cell by cell, where they are plain. -/
def valsOf (N : List Ent) (x : Operand) : Option (List Value) :=
  match dupOp N x with
  | .v y => if y.oneCell' then some [y] else match y with | .agg cs => if cs.all (·.oneCell') then some cs.toList else none | _ => none
  | .agg cs => cs.mapM fun | .v y => if y.oneCell' then some y else none | _ => none
  | _ => none

theorem mapM_vals {g : Gh} {V : Loc → Value} {w : World} : ∀ {cs : List AV} {vs xs : List Value} {o : List Nat}, (cs.mapM fun | .v y => if y.oneCell' then some y else none | _ => (none : Option Value)) = some vs → Rs g V w cs xs o → xs = vs ∧ ∀ u ∈ vs, u.oneCell' = true
  | [], vs, xs, o, h, hr => by
    simp at h; subst h
    simp only [Rs] at hr
    exact ⟨hr.1, by simp⟩
  | c :: cs, vs, xs, o, h, hr => by
    simp only [Rs] at hr
    obtain ⟨x, xs', o1, o2, rfl, rfl, h1, h2⟩ := hr
    rw [List.mapM_cons] at h
    cases c <;> simp at h
    case v y =>
      simp only [R] at h1
      by_cases hy : y.oneCell' = true
      · simp only [hy, if_true] at h
        cases hm : (cs.mapM fun | .v y => if y.oneCell' then some y else none | _ => (none : Option Value)) with
        | none => rw [hm] at h; simp at h
        | some vs' =>
          rw [hm] at h
          simp at h; subst h
          obtain ⟨h3, h4⟩ := mapM_vals hm h2
          subst h3
          exact ⟨by rw [h1.1], by simpa [hy] using h4⟩
      · simp [hy] at h

theorem valsOf_R {g : Gh} {V : Loc → Value} {w : World} {N : List Ent} {oN : List Nat} {a : Act} (hv : ∀ t, V (.slot t) = a.tmps.getD t undef) (h : Es g V w N oN) {x : Operand} {vs : List Value} (hx : valsOf N x = some vs) :
    (a.eval x).cells.toList = vs ∧ ∀ u ∈ vs, u.oneCell' = true := by
  have hr := dupOp_R hv h x
  unfold valsOf at hx
  split at hx
  · rename_i y hy
    rw [hy] at hr
    simp only [R] at hr
    rw [hr.1]
    split at hx
    · rename_i h1
      cases hx
      cases y <;> first | (simp [Value.oneCell'] at h1; done) | (simp [Value.cells, h1])
    · split at hx
      · rename_i cs h2
        split at hx
        · rename_i h3
          cases hx
          simp only [Array.all_eq_true_iff_forall_mem] at h3
          exact ⟨rfl, fun u hu => h3 u (by simpa using hu)⟩
        · cases hx
      · cases hx
  · rename_i cs hy
    rw [hy] at hr
    simp only [R] at hr
    obtain ⟨xs, he, hrs⟩ := hr
    obtain ⟨h1, h2⟩ := mapM_vals hx hrs
    rw [he]
    exact ⟨by simpa [Value.cells] using h1, h2⟩
  · cases hx

section
variable {ty : TypeId} {pos : String} {aft : Array Edge} {gd : Option (Nat × Bool)}

/-- An element of an own row, of a slot, is written. -/
theorem op_store_e (N : List Ent) {T : TypeId} (ax vx : Operand) {E : TypeId} {z : Nat} {xs : List Value} (t k s : Nat) (vs xs' : List Value) (hs : (P.info? T).map (·.size) = some s)
    (hx : dupOp (N ++ [(t, .fl (.own E) z xs)]) ax = .eref (.slot t) k) (hv : valsOf N vx = some vs) (hlen : vs.length = s) (h0 : 0 < s) (hfit : k + s ≤ xs.length) (hxs : xs.take k ++ (vs ++ xs.drop (k + s)) = xs') :
    LOp P ⟨none, .store T ax vx, ty, pos, aft, gd⟩ N [(t, .fl (.own E) z xs)] [(t, .fl (.own E) z xs')] [] := by
  subst hxs
  refine LOp.core fun g V oN oT a w hd hp => ?_
  have hT := hp.esT
  simp only [Es] at hT
  obtain ⟨ob, o2, rfl, ⟨hR, _⟩, rfl⟩ := hT
  have hax := dupOp_R hp.val (Es_append.2 ⟨oN, _, rfl, hp.esN, hp.esT⟩) ax
  rw [hx] at hax
  simp only [R] at hax hR
  obtain ⟨ad, n1, c1, h1, h2, _⟩ := hax
  obtain ⟨a0, n, c, ⟨h3, _⟩, hl, hone, _, hown, hob⟩ := hR
  have hne : xs ≠ [] := fun e => by subst e; simp at hfit; omega
  obtain ⟨b, c', cur, h4, hb, hnc, hcm, hsz, htk, _⟩ := own_parts hown hne
  rw [h1] at h3 h4
  cases h4
  cases h3
  obtain ⟨hvc, hvo⟩ := valsOf_R hp.val hp.esN hv
  have hrun : (execOp a.eval ⟨none, .store T ax vx, ty, pos, aft, gd⟩).run P w = .ok .skip (w.setRow b (cur.toList.take k ++ vs ++ cur.toList.drop (k + vs.length)).toArray) := by
    have hcl := (by simpa using hsz : cur.toList.length = _)
    have := Nat.mul_le_mul_right z hnc
    have := run_storeRow (P := P) (w := w) (T := T) (off := k) hs (cur := cur.toList) (E := E) (by simpa using hb) (v := a.eval vx) (by rw [← hlen, ← hvc]; simp) (by rw [hvc]; exact hvo) (by omega)
    rw [hvc] at this
    rw [add_flat, Nat.zero_add] at h2
    simp [execOp, Instr.storeAt, h2, Instr.sureAddr, this, hlen]
  refine (Yl.skip hrun).mono ?_
  rintro y w' ⟨rfl, rfl⟩
  have hnew := own_write (w := w) (vs := vs) k hb hnc hcm hsz htk hl (by omega)
  rw [hlen] at hnew
  have hone' : ∀ u ∈ xs.take k ++ (vs ++ xs.drop (k + s)), u.oneCell' = true := by
    intro u hu
    simp only [List.mem_append] at hu
    rcases hu with hu | hu | hu
    · exact hone u (List.mem_of_mem_take hu)
    · exact hvo u hu
    · exact hone u (List.mem_of_mem_drop hu)
  have hchg : Chg [b] w (w.setRow b (cur.toList.take k ++ vs ++ cur.toList.drop (k + vs.length)).toArray) := setRow_chg _ _ _
  have hob' : ob = [b] := by rw [hob, h1]; rfl
  refine ⟨g, V, ob, g.le_refl, fun c hc => .inl hc, fun c hc => Nat.lt_of_lt_of_le (hp.imm c (.inl hc)) hchg.size, hchg.mono (by rw [hob']; simp), fun _ _ => rfl, fun u => by simp only [Act.put]; exact hp.val u, ?_, ?_, ?_⟩
  · refine ⟨ob, [], by simp, ⟨?_, trivial⟩, rfl⟩
    dsimp only
    rw [h1, hob']
    rw [← hlen] at hnew ⊢
    exact own_fl hnew (by rw [hlen]; exact hone')
  · exact (List.nodup_append.1 (List.nodup_append.1 hp.nodup).2.1).1
  · intro c hc
    have := hp.own c (by simp [hc])
    exact ⟨.inl (by simp [hc]), Nat.lt_of_lt_of_le this.1 hchg.size, this.2⟩

/-- A row is made, all of its type's zero. -/
theorem op_makeSlice (N : List Ent) (d : Nat) {T e : TypeId} (x y : Operand) {kl kc : IntKind} (n : Nat) {i : TypeInfo} (zv : Value) (hT : P.underlying T = some (.slice e)) (hi : P.info? e = some i) (hz : i.zero = some zv) (hs : i.size = 1) (hzc : zv.oneCell' = true)
    (hx : rd N x = .v (.int kl (n : Int))) (hy : rd N y = .v (.int kc (n : Int))) (h0 : 0 < i.bytes) (hb : i.bytes * n ≤ 140737488355328) :
    LOp P ⟨some d, .makeSlice T x y, ty, pos, aft, gd⟩ N [] [(d, .fl (.own e) 1 (List.replicate n zv))] [.slot d] := by
  refine LOp.fresh rfl rfl fun g V oN a w hp => ?_
  have h1 := rd_v hp.val hp.esN hx
  have h2 := rd_v hp.val hp.esN hy
  by_cases hn : n ≤ maxLen
  · obtain ⟨w', hr, hown, hg⟩ := run_make_full (P := P) w 0 T e i zv 1 hT hi hz hs kl kc n (by omega) hn (Nat.zero_le _)
    have hcells : zv.cells = #[zv] := by cases zv <;> first | rfl | simp [Value.oneCell'] at hzc
    rw [hcells, Nat.mul_one, toList_madeCells_one] at hown
    refine (Yl.val (by simp [execOp, h1, h2, hr] : (execOp a.eval ⟨some d, .makeSlice T x y, ty, pos, aft, gd⟩).run P w = .ok (.value (.slice (some ⟨w.heap.size, 0, none⟩) n n)) w')).mono ?_
    rintro v w2 ⟨rfl, rfl⟩
    refine ⟨(Chg.of_grown hg).mono (by simp), g, [w.heap.size], g.le_refl, fun b hb => .inl hb, ?_, by simp, ?_⟩
    · exact own_fl hown (fun u hu => by rw [(List.mem_replicate.1 hu).2]; exact hzc)
    · intro b hb
      simp at hb; subst hb
      exact ⟨Nat.le_refl _, (hown.lt _ rfl).2, fun hi => Nat.lt_irrefl _ (hp.imm _ (.inl hi))⟩
  · exfalso
    have := Nat.le_mul_of_pos_left n h0
    simp only [maxLen] at hn
    omega
end
end
end Go.Abs
