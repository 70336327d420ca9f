import Derived.Test.YtegjndibgnnpcaaAnsS
namespace Go.Abs.Sh
set_option linter.unusedVariables false
set_option linter.unusedSimpArgs false

/-- A line stands in b from at_ to n. -/
def LineAt (b : List Int) (at_ : Nat) (k m : Int) (s : ByteArray) (n : Nat) : Prop := n ≤ b.length ∧ b.take n = b.take at_ ++ lineB k m s

theorem stepP_inv {z : Bool} {b : List Int} (hb : byt b) {c : Int} {ls : List ByteArray} {at_ : Nat} (hat : at_ ≤ b.length) :
    match stepP z b c ls at_ with
    | .fail => True
    | .done r n => ∃ k s, LineAt b at_ k 32 s n ∧ r = ⟨k, ls ++ [s]⟩ ∧ okRep r = true ∧ (0 < ls.length → k = c)
    | .next c' ls' at' => ∃ s, LineAt b at_ c' 45 s at' ∧ ls' = ls ++ [s] ∧ ls.length < 20 ∧ (0 < ls.length → c' = c) := by
  unfold stepP
  by_cases h1 : 20 ≤ ls.length
  · rw [if_pos h1]; trivial
  rw [if_neg h1]
  cases he : idx2 (b.drop at_) with
  | none => trivial
  | some e =>
    dsimp only
    by_cases h4 : e < 4
    · rw [if_pos h4]; trivial
    rw [if_neg h4]
    obtain ⟨hel, hed⟩ := idx2_some he
    rw [List.length_drop] at hel
    obtain ⟨line, hline⟩ : ∃ line, line = (b.drop at_).take e := ⟨_, rfl⟩
    have hll : line.length = e := by rw [hline, List.length_take, List.length_drop]; omega
    have hlb : byt line := by rw [hline]; exact byt_take (byt_drop hb _) _
    obtain ⟨x, y, w, m, t, hx⟩ : ∃ x y w m t, line = x :: y :: w :: m :: t := by
      match line, hll with
      | x :: y :: w :: m :: t, _ => exact ⟨x, y, w, m, t, rfl⟩
      | [_, _, _], h => simp at h; omega
      | [_, _], h => simp at h; omega
      | [_], h => simp at h; omega
      | [], h => simp at h; omega
    obtain ⟨h3, hm3⟩ := take_getD hline 3 (by omega) (by omega)
    have hm : b.getD (at_ + 3) 0 = m := by rw [← hm3]; simp [hx]
    rw [← hline, hm]
    cases hn : num3 line with
    | none => trivial
    | some k =>
      dsimp only
      have hk3 : head3 k = [x, y, w] := by
        rw [hx, num3_cons] at hn
        cases hd : dig x && dig y && dig w
        · rw [hd] at hn; cases hn
        · rw [hd] at hn
          simp only [cond_true, Option.some.injEq] at hn
          simp only [Bool.and_eq_true] at hd
          have d1 := dig_bd hd.1.1; have d2 := dig_bd hd.1.2; have d3 := dig_bd hd.2
          unfold head3
          congr 1
          · omega
          congr 1
          · omega
          congr 1
          omega
      have hwhole : (b.drop at_).take (e + 2) = line ++ [13, 10] := by
        rw [List.take_add, ← hline]
        congr 1
        have : (b.drop at_).drop e = 13 :: 10 :: (b.drop at_).drop (e + 2) := by
          conv => lhs; rw [hed]
          rw [← hline, ← hll, List.drop_left]
        rw [this]; rfl
      have hla : LineAt b at_ k m (bstr (line.drop 4)) (at_ + e + 2) := by
        refine ⟨by omega, ?_⟩
        rw [Nat.add_assoc, List.take_add, hwhole]
        congr 1
        unfold lineB
        rw [hk3, sbytes_bstr (byt_drop hlb 4), hx]
        simp
      by_cases hz : z = true ∧ b.getD at_ 0 = 48
      · rw [if_pos hz]; trivial
      rw [if_neg hz]
      by_cases hk : 0 < ls.length ∧ k ≠ c
      · rw [if_pos hk]; trivial
      rw [if_neg hk]
      have hkc : 0 < ls.length → k = c := fun h0 => Classical.byContradiction fun h => hk ⟨h0, h⟩
      by_cases h32 : m = 32
      · rw [if_pos h32]
        by_cases hok : okRep ⟨k, ls ++ [bstr (line.drop 4)]⟩ = true
        · rw [if_pos hok]
          exact ⟨k, _, h32 ▸ hla, rfl, hok, hkc⟩
        · rw [if_neg hok]; trivial
      · rw [if_neg h32]
        by_cases h45 : m = 45
        · rw [if_pos h45]
          exact ⟨_, h45 ▸ hla, rfl, by omega, hkc⟩
        · rw [if_neg h45]; trivial

def runP (z : Bool) (b : List Int) : Nat → Int → List ByteArray → Nat → Option (T_Reply × Nat)
  | 0, _, _, _ => none
  | f + 1, c, ls, at_ => match stepP z b c ls at_ with
    | .fail => none
    | .done r n => some (r, n)
    | .next c' ls' at' => runP z b f c' ls' at'

theorem rd_run {b : List Int} (hb : byt b) (hl : b.length ≤ 100000) : ∀ (f : Nat) (c : Int) (ls : List ByteArray) (at_ fuel : Nat), ls.length + f = 21 → 0 < f → at_ ≤ b.length → f < fuel →
    match runP false b f c ls at_ with
    | none => ∃ x, loopF (rdS b) fuel (c, ls, (at_ : Int)) = some (.inl x)
    | some (r, n) => loopF (rdS b) fuel (c, ls, (at_ : Int)) = some (.inr (r, (n : Int), 0)) := by
  intro f
  induction f with
  | zero => intro c ls at_ fuel _ h; omega
  | succ f ih =>
    intro c ls at_ fuel hlen _ hat hf
    obtain ⟨g, rfl⟩ : ∃ g, fuel = g + 1 := ⟨fuel - 1, by omega⟩
    have st := rd_step b hb hl c ls at_ hat (by omega)
    have inv := stepP_inv (z := false) hb (c := c) (ls := ls) hat
    unfold runP
    cases hs : stepP false b c ls at_ with
    | fail =>
      rw [hs] at st
      obtain ⟨x, hx⟩ := st
      exact ⟨x, loop_exit hx⟩
    | done r n => rw [hs] at st; exact loop_exit st
    | next c' ls' at' =>
      rw [hs] at st inv
      obtain ⟨s, ⟨h1, _⟩, rfl, h3, _⟩ := inv
      dsimp only at st ⊢
      rw [loop_next st]
      exact ih c' (ls ++ [s]) at' g (by simp; omega) (by omega) h1 (by omega)
theorem rrd_run {b : List Int} (hb : byt b) (hl : b.length ≤ 100000) : ∀ (f : Nat) (c : Int) (ls : List ByteArray) (at_ fuel : Nat), ls.length + f = 21 → 0 < f → at_ ≤ b.length → f < fuel →
    loopF (rrdS b) fuel (c, ls, (at_ : Int)) = some (.inr (match runP true b f c ls at_ with | none => (T_Reply.mk 0 [], 0, false) | some (r, n) => (r, (n : Int), true))) := by
  intro f
  induction f with
  | zero => intro c ls at_ fuel _ h; omega
  | succ f ih =>
    intro c ls at_ fuel hlen _ hat hf
    obtain ⟨g, rfl⟩ : ∃ g, fuel = g + 1 := ⟨fuel - 1, by omega⟩
    have st := rrd_step b hb hl c ls at_ hat (by omega)
    have inv := stepP_inv (z := true) hb (c := c) (ls := ls) hat
    unfold runP
    cases hs : stepP true b c ls at_ with
    | fail => rw [hs] at st; exact loop_exit st
    | done r n => rw [hs] at st; exact loop_exit st
    | next c' ls' at' =>
      rw [hs] at st inv
      obtain ⟨s, ⟨h1, _⟩, rfl, h3, _⟩ := inv
      dsimp only at st ⊢
      rw [loop_next st]
      exact ih c' (ls ++ [s]) at' g (by simp; omega) (by omega) h1 (by omega)

def midB (c : Int) (ls : List ByteArray) : List Int := ls.flatMap (lineB c 45)
theorem accB_mid (c : Int) (ls : List ByteArray) : ∀ i, i < ls.length → accB c ls i = midB c (ls.take i)
  | 0, _ => rfl
  | i + 1, h => by
    have ht : ls.take (i + 1) = ls.take i ++ [ls[i]] := List.take_succ_eq_append_getElem (by omega)
    rw [accB_succ, accB_mid c ls i (by omega), ht]
    have hm : markOf ls.length i = 45 := by unfold markOf; rw [if_neg (by omega)]
    have hg : ls.getD i ⟨#[]⟩ = ls[i] := by simp [List.getD_eq_getElem?_getD, List.getElem?_eq_getElem (show i < ls.length by omega)]
    rw [hm, hg]
    simp only [midB, List.flatMap_append, List.flatMap_cons, List.flatMap_nil, List.append_nil]
theorem repB_snoc (k : Int) (ls : List ByteArray) (s : ByteArray) : repB ⟨k, ls ++ [s]⟩ = midB k ls ++ lineB k 32 s := by
  unfold repB
  dsimp only
  rw [List.length_append, List.length_singleton, accB_succ, accB_mid _ _ _ (by simp)]
  have hm : markOf (ls ++ [s]).length ls.length = 32 := by unfold markOf; rw [if_pos (by simp)]
  rw [hm]
  simp

theorem runP_sound {z : Bool} {b : List Int} (hb : byt b) : ∀ (f : Nat) (c : Int) (ls : List ByteArray) (at_ : Nat) (r : T_Reply) (n : Nat), at_ ≤ b.length → b.take at_ = midB c ls → runP z b f c ls at_ = some (r, n) → okRep r = true ∧ n ≤ b.length ∧ b.take n = repB r := by
  intro f
  induction f with
  | zero => intro c ls at_ r n _ _ h; cases h
  | succ f ih =>
    intro c ls at_ r n hat hmid h
    have inv := stepP_inv (z := z) hb (c := c) (ls := ls) hat
    unfold runP at h
    have hmk : ∀ k, (0 < ls.length → k = c) → midB c ls = midB k ls := by
      intro k hk
      cases ls with
      | nil => rfl
      | cons a l => rw [hk (by simp)]
    cases hs : stepP z b c ls at_ with
    | fail => rw [hs] at h; cases h
    | done r' n' =>
      rw [hs] at h inv
      simp only [Option.some.injEq, Prod.mk.injEq] at h
      obtain ⟨rfl, rfl⟩ := h
      obtain ⟨k, s, ⟨h1, h2⟩, rfl, h4, h5⟩ := inv
      exact ⟨h4, h1, by rw [h2, hmid, repB_snoc, hmk k h5]⟩
    | next c' ls' at' =>
      rw [hs] at h inv
      obtain ⟨s, ⟨h1, h2⟩, rfl, h4, h5⟩ := inv
      exact ih c' (ls ++ [s]) at' r n h1 (by rw [h2, hmid, hmk c' h5]; simp [midB]) h

theorem accB_pre (c : Int) (ls : List ByteArray) : ∀ (d i : Nat), ∃ t, accB c ls (i + d) = accB c ls i ++ t
  | 0, i => ⟨[], by simp⟩
  | d + 1, i => by
    obtain ⟨t, ht⟩ := accB_pre c ls d i
    exact ⟨t ++ lineB c (markOf ls.length (i + d)) (ls.getD (i + d) ⟨#[]⟩), by rw [← Nat.add_assoc, accB_succ, ht, List.append_assoc]⟩

theorem step_at {z : Bool} {b : List Int} {r : T_Reply} (h : OkRep r) {j : Nat} (hj : j < r.Lines.length) {rest : List Int} {at_ : Nat} (hat : at_ ≤ b.length) (hd : b.drop at_ = lineB r.Code (markOf r.Lines.length j) r.Lines[j] ++ rest) (c : Int) (hc : 0 < j → c = r.Code) :
    stepP z b c (r.Lines.take j) at_ = if j + 1 = r.Lines.length then .done r (at_ + (r.Lines[j].size + 6)) else .next r.Code (r.Lines.take (j + 1)) (at_ + (r.Lines[j].size + 6)) := by
  have c1 := h.c1; have c2 := h.c2; have n2 := h.n2
  obtain ⟨s, hs⟩ : ∃ s, s = r.Lines[j] := ⟨_, rfl⟩
  have hsb := h.by_ s (by rw [hs]; exact List.getElem_mem hj)
  rw [← hs] at hd ⊢
  obtain ⟨line, hline⟩ : ∃ line, line = head3 r.Code ++ [markOf r.Lines.length j] ++ sbytes s := ⟨_, rfl⟩
  have hd' : b.drop at_ = line ++ 13 :: 10 :: rest := by rw [hd, hline]; simp [lineB]
  have hll : line.length = s.size + 4 := by rw [hline]; simp [head3, sbytes_len]
  have hmk : markOf r.Lines.length j = 32 ∨ markOf r.Lines.length j = 45 := by unfold markOf; split <;> simp
  have hno : ∀ x ∈ line, x ≠ 13 := by
    intro x hx
    rw [hline] at hx
    simp only [head3, List.mem_append, List.mem_cons, List.not_mem_nil, or_false] at hx
    rcases hx with (h | h) | h
    · rcases h with h | h | h <;> omega
    · rcases hmk with h' | h' <;> rw [h'] at h <;> omega
    · have := hsb x h; omega
  have hidx := idx2_line (rest := rest) hno
  rw [← hd'] at hidx
  have htk : (b.drop at_).take line.length = line := by rw [hd']; simp
  have hbl : at_ + line.length + 2 ≤ b.length := by
    have := congrArg List.length hd'
    rw [List.length_drop, List.length_append, List.length_cons, List.length_cons] at this
    omega
  have hg : ∀ i, i < line.length → b.getD (at_ + i) 0 = line.getD i 0 := by
    intro i hi
    have e : (b.drop at_)[i]? = line[i]? := by rw [hd', List.getElem?_append_left hi]
    rw [List.getElem?_drop] at e
    simp only [List.getD_eq_getElem?_getD, e]
  have g0 : b.getD at_ 0 = 48 + r.Code / 100 := by
    have := hg 0 (by omega)
    rw [Nat.add_zero] at this
    rw [this, hline]; simp [head3]
  have g3 : b.getD (at_ + 3) 0 = markOf r.Lines.length j := by rw [hg 3 (by omega), hline]; simp [head3]
  have hn3 : num3 line = some r.Code := by
    rw [hline]
    simp only [head3, List.cons_append, List.nil_append]
    rw [num3_cons]
    have d1 : dig (48 + r.Code / 100) = true := by simp only [dig, Bool.and_eq_true, decide_eq_true_eq]; omega
    have d2 : dig (48 + r.Code / 10 % 10) = true := by simp only [dig, Bool.and_eq_true, decide_eq_true_eq]; omega
    have d3 : dig (48 + r.Code % 10) = true := by simp only [dig, Bool.and_eq_true, decide_eq_true_eq]; omega
    rw [d1, d2, d3]
    show some _ = some _
    congr 1; omega
  have hdrop : bstr (line.drop 4) = s := by
    have : line.drop 4 = sbytes s := by rw [hline]; simp [head3]
    rw [this, bstr_sbytes]
  have htj : r.Lines.take j ++ [s] = r.Lines.take (j + 1) := by rw [hs, List.take_succ_eq_append_getElem hj]
  have hlen : (r.Lines.take j).length = j := by rw [List.length_take]; omega
  unfold stepP
  rw [if_neg (by rw [hlen]; omega), hidx]
  dsimp only
  rw [if_neg (by omega), htk, hn3]
  dsimp only
  rw [if_neg (by rw [g0]; omega), if_neg (by rw [hlen]; rintro ⟨h0, h1⟩; exact h1 (hc h0).symm), g3, hdrop, htj]
  by_cases hlast : j + 1 = r.Lines.length
  · have hm : markOf r.Lines.length j = 32 := by unfold markOf; rw [if_pos hlast]
    have hr : (⟨r.Code, r.Lines.take (j + 1)⟩ : T_Reply) = r := by rw [hlast, List.take_length]
    rw [hm, if_pos rfl, hr, if_pos (okRep_iff.2 h), if_pos hlast]
    congr 1; omega
  · have hm : markOf r.Lines.length j = 45 := by unfold markOf; rw [if_neg hlast]
    rw [hm, if_neg (by decide), if_pos rfl, if_neg hlast]
    congr 1; omega

theorem runP_complete {z : Bool} {b : List Int} {r : T_Reply} (h : OkRep r) {rest : List Int} (hbr : b = repB r ++ rest) : ∀ (k j : Nat) (c : Int), j + k + 1 = r.Lines.length → (0 < j → c = r.Code) →
    runP z b (21 - j) c (r.Lines.take j) (midB r.Code (r.Lines.take j)).length = some (r, (repB r).length) := by
  have n2 := h.n2
  have base : ∀ j, ∀ hj : j < r.Lines.length, ∃ t, repB r = midB r.Code (r.Lines.take j) ++ (lineB r.Code (markOf r.Lines.length j) r.Lines[j] ++ t) ∧ (j + 1 = r.Lines.length → t = []) := by
    intro j hj
    have hg : r.Lines.getD j ⟨#[]⟩ = r.Lines[j] := by simp [List.getD_eq_getElem?_getD, List.getElem?_eq_getElem hj]
    by_cases hlast : j + 1 = r.Lines.length
    · refine ⟨[], ?_, fun _ => rfl⟩
      unfold repB
      rw [← hlast, accB_succ, hg, accB_mid _ _ _ hj, hlast, List.append_nil]
    · obtain ⟨t, ht⟩ := accB_pre r.Code r.Lines (r.Lines.length - (j + 1)) (j + 1)
      refine ⟨t, ?_, fun h => absurd h hlast⟩
      unfold repB
      rw [show j + 1 + (r.Lines.length - (j + 1)) = r.Lines.length by omega] at ht
      rw [ht, accB_succ, hg, accB_mid _ _ _ hj, List.append_assoc]
  intro k
  induction k with
  | zero =>
    intro j c hjk hc
    have hj : j < r.Lines.length := by omega
    obtain ⟨t, ht, hte⟩ := base j hj
    have hte := hte (by omega)
    subst hte
    have hat : (midB r.Code (r.Lines.take j)).length ≤ b.length := by rw [hbr, ht]; simp
    have hd : b.drop (midB r.Code (r.Lines.take j)).length = lineB r.Code (markOf r.Lines.length j) r.Lines[j] ++ rest := by rw [hbr, ht]; simp
    rw [show 21 - j = (20 - j) + 1 by omega]
    unfold runP
    rw [step_at h hj hat hd c hc, if_pos (by omega)]
    have : (repB r).length = (midB r.Code (r.Lines.take j)).length + (r.Lines[j].size + 6) := by rw [ht, List.length_append, List.append_nil, lineB_len]
    rw [this]
  | succ k ih =>
    intro j c hjk hc
    have hj : j < r.Lines.length := by omega
    obtain ⟨t, ht, _⟩ := base j hj
    have hat : (midB r.Code (r.Lines.take j)).length ≤ b.length := by rw [hbr, ht]; simp
    have hd : b.drop (midB r.Code (r.Lines.take j)).length = lineB r.Code (markOf r.Lines.length j) r.Lines[j] ++ (t ++ rest) := by rw [hbr, ht]; simp
    rw [show 21 - j = (20 - j) + 1 by omega]
    unfold runP
    rw [step_at h hj hat hd c hc, if_neg (by omega)]
    have := ih (j + 1) r.Code (by omega) (fun _ => rfl)
    rw [show 21 - (j + 1) = 20 - j by omega] at this
    have hml : (midB r.Code (r.Lines.take (j + 1))).length = (midB r.Code (r.Lines.take j)).length + (r.Lines[j].size + 6) := by
      rw [List.take_succ_eq_append_getElem hj]
      simp only [midB, List.flatMap_append, List.length_append, List.flatMap_cons, List.flatMap_nil, List.append_nil, lineB_len]
    rw [hml] at this
    exact this

theorem read_whole13 {b : List Int} {r : T_Reply} (h : OkRep r) {rest : List Int} (hbr : b = repB r ++ rest) (z : Bool) : runP z b 21 0 [] 0 = some (r, (repB r).length) := by
  have n1 := h.n1
  exact runP_complete h hbr (r.Lines.length - 1) 0 0 (by omega) (fun h => by omega)
theorem read_sound13 {b : List Int} (hb : byt b) {z : Bool} {r : T_Reply} {n : Nat} (h : runP z b 21 0 [] 0 = some (r, n)) : OkRep r ∧ n ≤ b.length ∧ b.take n = repB r := by
  obtain ⟨h1, h2, h3⟩ := runP_sound hb 21 0 [] 0 r n (Nat.zero_le _) (by simp [midB]) h
  exact ⟨okRep_iff.1 h1, h2, h3⟩
theorem read_both {b : List Int} (hb : byt b) : runP true b 21 0 [] 0 = runP false b 21 0 [] 0 := by
  have key : ∀ z z' : Bool, ∀ x, runP z b 21 0 [] 0 = some x → runP z' b 21 0 [] 0 = some x := by
    rintro z z' ⟨r, n⟩ h
    obtain ⟨h1, h2, h3⟩ := read_sound13 hb h
    have := read_whole13 h1 (b := b) (rest := b.drop n) (by rw [← h3, List.take_append_drop]) z'
    rw [this, ← h3, List.length_take]
    congr 2; omega
  cases ht : runP true b 21 0 [] 0 with
  | some x => exact (key true false x ht).symm
  | none =>
    cases hf : runP false b 21 0 [] 0 with
    | none => rfl
    | some x => rw [key false true x hf] at ht; cases ht

theorem read13 {b : List Int} (hb : byt b) (hl : b.length ≤ 100000) : answer_Read b = some (match runP false b 21 0 [] 0 with | none => (T_Reply.mk 0 [], 0, 3) | some (r, n) => (r, (n : Int), 0)) := by
  unfold answer_Read
  have h := rd_run hb hl 21 0 [] 0 BIG (by simp) (by omega) (Nat.zero_le _) (by unfold BIG; omega)
  cases hr : runP false b 21 0 [] 0 with
  | none =>
    rw [hr] at h
    obtain ⟨x, hx⟩ := h
    exact bndL (s := x) hx rfl
  | some p =>
    obtain ⟨r, n⟩ := p
    rw [hr] at h
    exact bndR h rfl
theorem rread13 {b : List Int} (hb : byt b) (hl : b.length ≤ 100000) : wherryref11_ReadReply b = some (match runP false b 21 0 [] 0 with | none => (T_Reply.mk 0 [], 0, false) | some (r, n) => (r, (n : Int), true)) := by
  unfold wherryref11_ReadReply
  have h := rrd_run hb hl 21 0 [] 0 BIG (by simp) (by omega) (Nat.zero_le _) (by unfold BIG; omega)
  rw [read_both hb] at h
  exact bndR h rfl

theorem keepReply_eq (a b : T_Reply) (h : a.Lines.length < 1000000) : wherrykeep_Reply a b = some (decide (a = b)) := by
  unfold wherrykeep_Reply
  by_cases hc : a.Code = b.Code
  · by_cases hl : a.Lines.length = b.Lines.length
    · refine bndL (s := false) (cnd_f (by rw [hc]; simp) (by rw [show ((a.Lines.length : Int) != (b.Lines.length : Int)) = false by rw [hl]; simp])) (cnd_f rfl ?_)
      have lp := loop_all (f := krepS a b) (fun i => decide (a.Lines.getD i ⟨#[]⟩ = b.Lines.getD i ⟨#[]⟩)) a.Lines.length false (fuel := BIG) (by unfold BIG; omega)
        (fun i hi hp => by
          have hi' : i < b.Lines.length := by omega
          have e : a.Lines[i] = b.Lines[i] := by simpa [List.getD_eq_getElem?_getD, List.getElem?_eq_getElem hi, List.getElem?_eq_getElem hi'] using hp
          unfold krepS
          exact cnd_t (decide_eq_true (by omega)) (bnd (ixO_of hi) (bnd (getO_of hi) (bnd (ixO_of hi') (bnd (getO_of hi') (cnd_f (by rw [toList_beq, e]; simp) (bnd (by rw [wrap_succ (by omega)]) rfl)))))))
        (fun i hi hp => by
          have hi' : i < b.Lines.length := by omega
          have e : ¬ a.Lines[i] = b.Lines[i] := by simpa [List.getD_eq_getElem?_getD, List.getElem?_eq_getElem hi, List.getElem?_eq_getElem hi'] using hp
          unfold krepS
          exact cnd_t (decide_eq_true (by omega)) (bnd (ixO_of hi) (bnd (getO_of hi) (bnd (ixO_of hi') (bnd (getO_of hi') (cnd_t (by rw [toList_beq, decide_eq_false e]; rfl) rfl))))))
        (by unfold krepS; exact cnd_f (decide_eq_false (by omega)) rfl)
      by_cases hall : ∀ i, i < a.Lines.length → decide (a.Lines.getD i ⟨#[]⟩ = b.Lines.getD i ⟨#[]⟩) = true
      · rw [if_pos hall] at lp
        refine bndL lp ?_
        have : a = b := by
          obtain ⟨ac, al⟩ := a; obtain ⟨bc, bl⟩ := b
          simp only at hc hl hall
          subst hc
          congr 1
          apply List.ext_getElem hl
          intro i h1 h2
          simpa [List.getD_eq_getElem?_getD, List.getElem?_eq_getElem h1, List.getElem?_eq_getElem h2] using hall i h1
        rw [decide_eq_true this]
      · rw [if_neg hall] at lp
        refine bndR lp ?_
        have : ¬ a = b := by rintro rfl; exact hall fun i _ => by simp
        rw [decide_eq_false this]
    · refine bndL (s := true) (cnd_f (by rw [hc]; simp) (by rw [show ((a.Lines.length : Int) != (b.Lines.length : Int)) = true by simp; omega])) (cnd_t rfl ?_)
      rw [decide_eq_false (fun e => hl (by rw [e]))]
  · refine bndL (s := true) (cnd_t (by simpa using hc) rfl) (cnd_t rfl ?_)
    rw [decide_eq_false (fun e => hc (by rw [e]))]

theorem wakes13 : wherrylaw13_wakes = some true := by kernel_rfl
end Go.Abs.Sh
