import Derived.Test.YtgonanjdmdlkjaaDoorLineM
import Derived.KernelRfl
namespace Go.Abs.Sh
set_option linter.unusedVariables false
set_option linter.unusedSimpArgs false
def folL {X S O : Type} (step : X → S → Option (S ⊕ O)) : List X → S → Option (S ⊕ O)
  | [], s => some (.inl s)
  | x :: l, s => match step x s with
    | none => none
    | some (.inl s') => folL step l s'
    | some (.inr o) => some (.inr o)
inductive Lns : List Int → List (List Int) → List Int → Prop
  | nil {b : List Int} (h : idx2 b = none) : Lns b [] b
  | cons {b : List Int} {e : Nat} {ls : List (List Int)} {r : List Int} (h : idx2 b = some e) (t : Lns (b.drop (e + 2)) ls r) : Lns b (b.take e :: ls) r
theorem wrap_j {n : Int} (h0 : -9223372036854775808 ≤ n) (h1 : n < 9223372036854775808) : some (IntKind.i64.wrap n) = some n := by rw [wrap_i64 h0 h1]
theorem cut_none {b : List Int} (hb : byt b) (hl : b.length < 4294967281) (h : idx2 b = none) : bytes_Cut_sh b [13, 10] = some (b, [], false) := by
  unfold bytes_Cut_sh
  refine bnd (bytesIndex2 hb hl) ?_
  rw [h]
  rfl
theorem cut_some {b : List Int} (hb : byt b) (hl : b.length < 4294967281) {e : Nat} (h : idx2 b = some e) : bytes_Cut_sh b [13, 10] = some (b.take e, b.drop (e + 2), true) := by
  have h1 := (idx2_some h).1
  unfold bytes_Cut_sh
  refine bnd (bytesIndex2 hb hl) ?_
  rw [h]
  refine cnd_t (decide_eq_true (by show (0 : Int) ≤ (e : Int); omega)) ?_
  have e1 : sliO b 0 (e : Int) = some (b.take e) := by
    have := sli_nat b (a := 0) (b := e) (by omega) (by omega)
    simpa using this
  refine bnd e1 ?_
  refine bnd (x := ((e + 2 : Nat) : Int)) (by
    show some (IntKind.i64.wrap ((e : Int) + 2)) = _
    rw [wrap_j (by omega) (by omega)]; simp) ?_
  refine bnd (x := b.drop (e + 2)) (by
    rw [sli_nat b (by omega) (by omega), List.take_of_length_le (by simp)]) rfl
theorem lines_range {S O : Type} (step : List Int → S → Option (S ⊕ O)) {b : List Int} {ls : List (List Int)} {rest : List Int} (H : Lns b ls rest) (hb : byt b) (hl : b.length < 4294967281) (st : S) (r : S ⊕ O) (hr : folL step ls st = some r) :
    rangeS (S := S) (O := O) (fun Y st => dots_lines_1 Y b st) step st = some r := by
  unfold rangeS dots_lines_1
  have key : ∀ (b : List Int) (ls : List (List Int)) (rest : List Int), Lns b ls rest → byt b → b.length < 4294967281 → ∀ (fuel : Nat) (st : S), b.length < fuel → folL step ls st = some r →
      bindS (S := (Unit)) (A := S ⊕ O)
        (loopF (S := ((List Int) × (S ⊕ O))) (O := (Unit) ⊕ (S ⊕ O)) (fun ((s17, s18) : (List Int) × (S ⊕ O)) =>
          (bytes_Cut_sh s17 [13, 10]).bind fun v1 =>
          bindS (S := (S ⊕ O) × Bool) (A := (((List Int) × (S ⊕ O)) ⊕ ((Unit) ⊕ (S ⊕ O))))
            (cond ((!v1.2.2))
              (some (.inl (s18, true)))
              ((rangeY step v1.1 s18).bind fun v2 =>
              some (.inl ((v2.1, (!v2.2))))))
            (fun ((s31, s32) : (S ⊕ O) × Bool) =>
              cond (s32)
                (some (.inr (.inr (s31))))
                (some (.inl (v1.2.1, s31)))) some)
          fuel (b, .inl st))
        (fun (() : Unit) =>
          none) some = some r := by
    intro b ls rest H
    induction H with
    | nil h =>
      intro hb hl fuel st hf hr
      obtain ⟨f, rfl⟩ : ∃ f, fuel = f + 1 := ⟨fuel - 1, by omega⟩
      rw [loop_exit (o := .inr (.inl st)) (bnd (cut_none hb hl h) rfl)]
      exact hr
    | cons h t ih =>
      rename_i b e ls r'
      intro hb hl fuel st hf hr
      obtain ⟨f, rfl⟩ : ∃ f, fuel = f + 1 := ⟨fuel - 1, by omega⟩
      have h1 := (idx2_some h).1
      simp only [folL] at hr
      cases hst : step (b.take e) st with
      | none => rw [hst] at hr; cases hr
      | some u =>
        rw [hst] at hr
        cases u with
        | inl s' =>
          rw [loop_next (s' := (b.drop (e + 2), .inl s')) (bnd (cut_some hb hl h) (bndL (s := ((Sum.inl s' : S ⊕ O), false)) (cnd_f rfl (bnd (x := ((Sum.inl s' : S ⊕ O), true)) (by simp [rangeY, hst]) rfl)) rfl))]
          exact ih (byt_drop hb _) (by rw [List.length_drop]; omega) f s' (by rw [List.length_drop]; omega) hr
        | inr o =>
          rw [loop_exit (o := .inr (.inr o)) (bnd (cut_some hb hl h) (bndL (s := ((Sum.inr o : S ⊕ O), true)) (cnd_f rfl (bnd (x := ((Sum.inr o : S ⊕ O), false)) (by simp [rangeY, hst]) rfl)) rfl))]
          exact hr
  exact key b ls rest H hb hl BIG st (by unfold BIG; omega) hr
theorem lns_ex : ∀ (n : Nat) (b : List Int), b.length ≤ n → ∃ ls r, Lns b ls r
  | n, b, hn => by
    cases h : idx2 b with
    | none => exact ⟨_, _, .nil h⟩
    | some e =>
      have h1 := (idx2_some h).1
      cases n with
      | zero => omega
      | succ n =>
        obtain ⟨ls, r, H⟩ := lns_ex n (b.drop (e + 2)) (by rw [List.length_drop]; omega)
        exact ⟨_, _, .cons h H⟩
def jn : List (List Int) → List Int
  | [] => []
  | l :: ls => l ++ 13 :: 10 :: jn ls
theorem jn_app : ∀ (a b : List (List Int)), jn (a ++ b) = jn a ++ jn b
  | [], b => rfl
  | x :: a, b => by simp [jn, jn_app a b]
theorem lns_join {b : List Int} {ls : List (List Int)} {r : List Int} (H : Lns b ls r) : b = jn ls ++ r := by
  induction H with
  | nil h => rfl
  | cons h t ih =>
    have h2 := (idx2_some h).2
    conv => lhs; rw [h2]
    simp only [jn, List.append_assoc, List.cons_append]
    rw [← ih]
def cln (l : List Int) : Prop := ∀ x ∈ l, x ≠ 13 ∧ x ≠ 10
theorem lns_app {ls : List (List Int)} {t : List Int} {ms : List (List Int)} {r : List Int} (h : ∀ l ∈ ls, cln l) (H : Lns t ms r) : Lns (jn ls ++ t) (ls ++ ms) r := by
  induction ls with
  | nil => exact H
  | cons l ls ih =>
    have e : jn (l :: ls) ++ t = l ++ 13 :: 10 :: (jn ls ++ t) := by simp [jn]
    have hi := idx2_line (line := l) (rest := jn ls ++ t) (fun x hx => (h l (by simp) x hx).1)
    have := Lns.cons (b := l ++ 13 :: 10 :: (jn ls ++ t)) hi (ls := ls ++ ms) (r := r) (by
      have e2 : (l ++ 13 :: 10 :: (jn ls ++ t)).drop (l.length + 2) = jn ls ++ t := by
        rw [List.drop_append]; simp
      rw [e2]
      exact ih fun x hx => h x (by simp [hx]))
    rw [e]
    have e3 : (l ++ 13 :: 10 :: (jn ls ++ t)).take l.length = l := by simp
    rw [e3] at this
    exact this
theorem lns_nil : Lns [] [] [] := .nil rfl
theorem lns_jn {ls : List (List Int)} (h : ∀ l ∈ ls, cln l) : Lns (jn ls) ls [] := by
  have := lns_app h lns_nil
  simpa using this
theorem crlf_clean : ∀ {l : List Int}, cln l → crlfIx l = -1
  | [], _ => rfl
  | x :: l, h => by
    have hx := h x (by simp)
    unfold crlfIx
    rw [if_neg (by rintro (e | e); exact hx.1 e; exact hx.2 e), if_pos (crlf_clean fun y hy => h y (by simp [hy]))]
theorem crlf_dirty : ∀ {l : List Int}, ¬ cln l → 0 ≤ crlfIx l
  | [], h => absurd (fun x hx => by simp at hx) h
  | x :: l, h => by
    unfold crlfIx
    by_cases hx : x = 13 ∨ x = 10
    · rw [if_pos hx]; omega
    · rw [if_neg hx]
      have := crlf_dirty (l := l) (fun hc => h fun y hy => by
        rcases List.mem_cons.1 hy with rfl | hy
        · exact ⟨fun e => hx (.inl e), fun e => hx (.inr e)⟩
        · exact hc y hy)
      rw [if_neg (by omega)]; omega
theorem any_of {l : List Int} (hb : byt l) (hl : l.length < 4294967281) : bytes_ContainsAny l (⟨#[13, 10]⟩ : ByteArray) = some (decide (0 ≤ crlfIx l)) := by
  unfold bytes_ContainsAny bytes_IndexAny
  rw [if_pos ⟨rfl, hl, List.all_eq_true.2 fun x hx => decide_eq_true (hb x hx)⟩]
  rfl
def tot : List (List Int) → Nat
  | [] => 0
  | l :: ls => l.length + 2 + tot ls
theorem jn_len : ∀ ls, (jn ls).length = tot ls
  | [] => rfl
  | l :: ls => by simp [jn, tot, jn_len ls]; omega
open Classical in
theorem fol_check : ∀ (ls : List (List Int)) (s : Nat), (∀ l ∈ ls, byt l) → s + tot ls < 4294967281 →
    folL (S := Int) (O := Int) (fun (x : (List Int)) (s8 : Int) =>
      (bytes_ContainsAny x (⟨#[13, 10]⟩ : ByteArray)).bind fun v2 =>
      cond (v2)
        (some (.inr s8))
        ((some (IntKind.i64.wrap ((x.length : Int) + 2))).bind fun v4 =>
        (some (IntKind.i64.wrap (s8 + v4))).bind fun v5 =>
        some (.inl v5))) ls (s : Int) = if ∀ l ∈ ls, cln l then some (.inl ((s + tot ls : Nat) : Int)) else (folL (S := Int) (O := Int) (fun (x : (List Int)) (s8 : Int) =>
      (bytes_ContainsAny x (⟨#[13, 10]⟩ : ByteArray)).bind fun v2 =>
      cond (v2)
        (some (.inr s8))
        ((some (IntKind.i64.wrap ((x.length : Int) + 2))).bind fun v4 =>
        (some (IntKind.i64.wrap (s8 + v4))).bind fun v5 =>
        some (.inl v5))) ls (s : Int)) := by
  intro ls
  induction ls with
  | nil => intro s _ _; simp [folL, tot]
  | cons l ls ih =>
    intro s hb hs
    by_cases h : ∀ m ∈ l :: ls, cln m
    · rw [if_pos h]
      simp only [tot] at hs
      have e : ((bytes_ContainsAny l (⟨#[13, 10]⟩ : ByteArray)).bind fun v2 =>
      cond (v2)
        (some (.inr (s : Int)))
        ((some (IntKind.i64.wrap ((l.length : Int) + 2))).bind fun v4 =>
        (some (IntKind.i64.wrap ((s : Int) + v4))).bind fun v5 =>
        some (.inl v5)) : Option (Int ⊕ Int)) = some (.inl ((s + (l.length + 2) : Nat) : Int)) := by
        refine bnd (any_of (hb l (by simp)) (by omega)) ?_
        rw [crlf_clean (h l (by simp))]
        refine cnd_f rfl (bnd (wrap_j (by omega) (by omega)) (bnd (wrap_j (by omega) (by omega)) ?_))
        simp
      simp only [folL]
      rw [e]
      have := ih (s + (l.length + 2)) (fun m hm => hb m (by simp [hm])) (by omega)
      rw [if_pos fun m hm => h m (by simp [hm])] at this
      simp only [tot]
      rw [show s + (l.length + 2 + tot ls) = s + (l.length + 2) + tot ls by omega]
      exact this
    · rw [if_neg h]
theorem fol_dirty : ∀ (ls : List (List Int)) (s : Nat), (∀ l ∈ ls, byt l) → s + tot ls < 4294967281 → (¬ ∀ l ∈ ls, cln l) →
    ∃ o, folL (S := Int) (O := Int) (fun (x : (List Int)) (s8 : Int) =>
      (bytes_ContainsAny x (⟨#[13, 10]⟩ : ByteArray)).bind fun v2 =>
      cond (v2)
        (some (.inr s8))
        ((some (IntKind.i64.wrap ((x.length : Int) + 2))).bind fun v4 =>
        (some (IntKind.i64.wrap (s8 + v4))).bind fun v5 =>
        some (.inl v5))) ls (s : Int) = some (.inr o) := by
  intro ls
  induction ls with
  | nil => intro s _ _ h; exact absurd (fun x hx => by simp at hx) h
  | cons l ls ih =>
    intro s hb hs h
    simp only [tot] at hs
    by_cases hc : cln l
    · have e : ((bytes_ContainsAny l (⟨#[13, 10]⟩ : ByteArray)).bind fun v2 =>
      cond (v2)
        (some (.inr (s : Int)))
        ((some (IntKind.i64.wrap ((l.length : Int) + 2))).bind fun v4 =>
        (some (IntKind.i64.wrap ((s : Int) + v4))).bind fun v5 =>
        some (.inl v5)) : Option (Int ⊕ Int)) = some (.inl ((s + (l.length + 2) : Nat) : Int)) := by
        refine bnd (any_of (hb l (by simp)) (by omega)) ?_
        rw [crlf_clean hc]
        refine cnd_f rfl (bnd (wrap_j (by omega) (by omega)) (bnd (wrap_j (by omega) (by omega)) ?_))
        simp
      obtain ⟨o, ho⟩ := ih (s + (l.length + 2)) (fun m hm => hb m (by simp [hm])) (by omega) (fun hh => h fun m hm => by
        rcases List.mem_cons.1 hm with rfl | hm
        · exact hc
        · exact hh m hm)
      refine ⟨o, ?_⟩
      simp only [folL]
      rw [e]
      exact ho
    · refine ⟨(s : Int), ?_⟩
      simp only [folL]
      rw [any_of (hb l (by simp)) (by omega), decide_eq_true (crlf_dirty hc)]
      rfl
theorem byt_line {b : List Int} {ls : List (List Int)} {r : List Int} (H : Lns b ls r) (hb : byt b) : ∀ l ∈ ls, byt l := by
  induction H with
  | nil h => intro l hl; simp at hl
  | cons h t ih =>
    intro l hl
    rcases List.mem_cons.1 hl with rfl | hl
    · exact byt_take hb _
    · exact ih (byt_drop hb _) l hl
theorem byt_jn {ls : List (List Int)} (h : byt (jn ls)) : ∀ l ∈ ls, byt l := by
  induction ls with
  | nil => intro l hl; simp at hl
  | cons m ls ih =>
    intro l hl
    simp only [jn] at h
    rcases List.mem_cons.1 hl with rfl | hl
    · exact fun x hx => h x (by simp [hx])
    · exact ih (fun x hx => h x (by simp [hx])) l hl
theorem jn_byt {ls : List (List Int)} (h : ∀ l ∈ ls, byt l) : byt (jn ls) := by
  induction ls with
  | nil => intro l hl; simp [jn] at hl
  | cons m ls ih =>
    intro x hx
    simp only [jn, List.mem_append, List.mem_cons] at hx
    rcases hx with hx | rfl | rfl | hx
    · exact h m (by simp) x hx
    · omega
    · omega
    · exact ih (fun l hl => h l (by simp [hl])) x hx
theorem check_ok {ls : List (List Int)} (h : ∀ l ∈ ls, cln l) (hb : ∀ l ∈ ls, byt l) (hl : tot ls < 4294967281) : dots_Check (jn ls) = some 0 := by
  unfold dots_Check dots_lines
  refine bnd rfl ?_
  refine bndL (s := ((0 + tot ls : Nat) : Int)) (lines_range _ (lns_jn h) (jn_byt hb) (by rw [jn_len]; exact hl) _ _ (by
    have := fol_check ls 0 hb (by omega)
    rw [if_pos h] at this
    exact this)) ?_
  refine cnd_f ?_ rfl
  rw [jn_len]; simp
theorem check_any {b : List Int} (hb : byt b) (hl : b.length < 4294967281) : (dots_Check b = some 5) ∨ ∃ ls, (∀ l ∈ ls, cln l) ∧ (∀ l ∈ ls, byt l) ∧ b = jn ls := by
  obtain ⟨ls, r, H⟩ := lns_ex b.length b (Nat.le_refl _)
  have hj := lns_join H
  have hlen : b.length = tot ls + r.length := by rw [hj, List.length_append, jn_len]
  by_cases h : ∀ l ∈ ls, cln l
  · cases r with
    | nil => exact .inr ⟨ls, h, byt_line H hb, by simpa using hj⟩
    | cons y r =>
      left
      unfold dots_Check dots_lines
      refine bnd rfl ?_
      refine bndL (s := ((0 + tot ls : Nat) : Int)) (lines_range _ H hb hl _ _ (by
        have := fol_check ls 0 (byt_line H hb) (by omega)
        rw [if_pos h] at this
        exact this)) ?_
      refine cnd_t ?_ rfl
      simp only [List.length_cons] at hlen
      rw [bne_iff_ne]; omega
  · left
    obtain ⟨o, ho⟩ := fol_dirty ls 0 (byt_line H hb) (by omega) h
    unfold dots_Check dots_lines
    refine bnd rfl ?_
    exact bndR (a := o) (lines_range _ H hb hl _ _ ho) rfl
end Go.Abs.Sh
