import Derived.Test.YthhebpiaknfnhaaTakK
namespace Go.Abs.Sh
set_option linter.unusedVariables false
set_option linter.unusedSimpArgs false
theorem inl_of {A : Type} {a b : Bool} (h : a = b) : (some (.inl a) : Option (Bool ⊕ A)) = some (.inl b) := by rw [h]
/-! A spool's items by their Ids. -/
def Ids (s : T_Spool) : Prop := ∀ i (h : i < s.Items.length), s.Items[i].Id = (i : Int) + 1
def wt (s : T_Spool) (n : Int) : Bool := decide (1 ≤ n ∧ n ≤ (s.Items.length : Int)) && ((s.Items[(n - 1).toNat]?.map (·.State)) == some 1)
def idB (s : T_Spool) (ids : List Int) (i : Nat) : Bool := (i == 0 || decide (ids.getD (i - 1) 0 < ids.getD i 0)) && wt s (ids.getD i 0)
def idsB (s : T_Spool) (ids : List Int) : Bool := decide (1 ≤ ids.length ∧ ids.length ≤ 4) && decide (∀ i, i < ids.length → idB s ids i = true)
def opn (s : T_Spool) (n : Int) : Bool := decide (1 ≤ n ∧ n ≤ 65535) && !decide (n ∈ s.Done)
def ckB (s : T_Spool) (r : T_Rec) : Bool := decide (1 ≤ r.Data.length ∧ r.Data.length ≤ 48) && (decide (r.Offset = 0) || decide (s.Of = r.Number ∧ r.Offset = (s.Part.length : Int) ∧ s.Part.length + r.Data.length ≤ 5000))
def f2 (ids : List Int) (n : Int) (x : T_Item) : T_Item := if x.Id ∈ ids then ⟨x.Id, x.Mail, 2, n⟩ else x
def f3 (n : Int) (x : T_Item) : T_Item := if x.Pack = n then ⟨x.Id, x.Mail, 3, x.Pack⟩ else x
def f4 (n : Int) (x : T_Item) : T_Item := if x.Id = n then ⟨x.Id, x.Mail, 4, x.Pack⟩ else x
def eff (s : T_Spool) (r : T_Rec) : T_Spool :=
  if r.Kind = 1 then ⟨s.Items ++ [⟨r.Id, r.Mail, if r.Origin = 0 then 3 else 1, 0⟩], s.Packs, s.Sent, s.Part, s.Of, s.Done⟩
  else if r.Kind = 2 then ⟨s.Items.map (f2 r.Ids r.Number), r.Number, s.Sent, s.Part, s.Of, s.Done⟩
  else if r.Kind = 3 then ⟨s.Items.map (f3 r.Number), s.Packs, s.Sent ++ [r.Number], s.Part, s.Of, s.Done⟩
  else if r.Kind = 4 then ⟨s.Items.map (f4 r.Id), s.Packs, s.Sent, s.Part, s.Of, s.Done⟩
  else if r.Kind = 5 then ⟨s.Items, s.Packs, s.Sent, if r.Offset = 0 then r.Data else s.Part ++ r.Data, if r.Offset = 0 then r.Number else s.Of, s.Done⟩
  else ⟨s.Items, s.Packs, s.Sent, if s.Of = r.Number then [] else s.Part, if s.Of = r.Number then -1 else s.Of, insS s.Done r.Number⟩
def Rok (r : T_Rec) : Prop := LR r ∧ byt r.Mail.Body
structure Inv (n : Nat) (s : T_Spool) : Prop where
  hn : n < 1000000
  len : s.Items.length ≤ n
  ids : Ids s
  lm : ∀ x ∈ s.Items, LM x.Mail
  packs : 0 ≤ s.Packs ∧ s.Packs ≤ (n : Int)
  sent : s.Sent.length ≤ n
  part : s.Part.length ≤ 5000
  done : s.Done.length ≤ n
  srt : Srt s.Done
/-! The page's own judgement. -/
def e8 : ByteArray := ⟨#[]⟩
def zM8 : T_Mail := T_Mail.mk (T_Path.mk false e8 e8) [] [] false e8 0
def cleanR (r : T_Rec) : T_Rec :=
  if r.Kind = 1 then ⟨r.Kind, r.Mail, r.Id, [], r.Origin, 0, 0, []⟩
  else if r.Kind = 2 then ⟨r.Kind, zM8, 0, r.Ids, 0, r.Number, 0, []⟩
  else if r.Kind = 3 then ⟨r.Kind, zM8, 0, [], 0, r.Number, 0, []⟩
  else if r.Kind = 4 then ⟨r.Kind, zM8, r.Id, [], 0, 0, 0, []⟩
  else if r.Kind = 5 then ⟨r.Kind, zM8, 0, [], 0, r.Number, r.Offset, r.Data⟩
  else if r.Kind = 6 then ⟨r.Kind, zM8, 0, [], 0, r.Number, 0, []⟩
  else ⟨r.Kind, zM8, 0, [], 0, 0, 0, []⟩
def bodyV (b : List Int) : Bool := (wherryref11_Body b).getD false
def mailV (m : T_Mail) : Bool := patB m.From && (decide (1 ≤ m.To.length ∧ m.To.length ≤ 8) && (bodyV m.Body && (decide (0 ≤ m.At ∧ m.At ≤ 1099511627776) && decide (∀ p ∈ m.To, patB p = true ∧ p.Null = false))))
def okR (s : T_Spool) (r : T_Rec) : Bool := decide (cleanR r = r) && (
  if r.Kind = 1 then decide (s.Items.length < 60 ∧ r.Id = (s.Items.length : Int) + 1 ∧ (r.Origin = 0 ∨ r.Origin = 1)) && mailV r.Mail
  else if r.Kind = 2 then decide (r.Number = s.Packs + 1) && idsB s r.Ids
  else if r.Kind = 3 then decide (1 ≤ r.Number ∧ r.Number ≤ s.Packs ∧ r.Number ∉ s.Sent)
  else if r.Kind = 4 then wt s r.Id
  else if r.Kind = 5 then opn s r.Number && ckB s r
  else if r.Kind = 6 then opn s r.Number
  else false)
def okS (s : T_Spool) (r : T_Rec) : Bool := okR s r
def upd {A : Type} (f : A → A) (k : Nat) (l : List A) : List A := (l.take k).map f ++ l.drop k
theorem upd_len {A : Type} (f : A → A) (k : Nat) (l : List A) : (upd f k l).length = l.length := by simp [upd]; omega
theorem upd_get {A : Type} (f : A → A) {k : Nat} {l : List A} (h : k < l.length) : getO (upd f k l) k = some l[k] := by
  simp only [getO, upd]
  rw [List.getElem?_append_right (by simp; omega)]
  simp [Nat.min_eq_left (Nat.le_of_lt h), h]
theorem upd_succ {A : Type} (f : A → A) {k : Nat} {l : List A} (h : k < l.length) : upd f (k + 1) l = (l.take k).map f ++ f l[k] :: l.drop (k + 1) := by
  simp only [upd]
  rw [take_succ l k h, List.map_append, List.append_assoc]
  rfl
theorem upd_set {A : Type} (f : A → A) {k : Nat} {l : List A} (h : k < l.length) (x : A) (hx : x = f l[k]) : (upd f k l).set k x = upd f (k + 1) l := by
  subst hx
  rw [upd_succ f h]
  simp only [upd]
  rw [List.set_append_right _ _ (by simp; omega)]
  congr 1
  rw [show k - ((l.take k).map f).length = 0 from by simp; omega, List.drop_eq_getElem_cons h]
  rfl
theorem upd_same {A : Type} (f : A → A) {k : Nat} {l : List A} (h : k < l.length) (hx : f l[k] = l[k]) : upd f k l = upd f (k + 1) l := by
  rw [upd_succ f h, hx]
  simp only [upd]
  rw [List.drop_eq_getElem_cons h]
theorem upd_all {A : Type} (f : A → A) (l : List A) : upd f l.length l = l.map f := by simp [upd]
theorem wt_at {s : T_Spool} {n : Int} (h : wt s n = true) : ∃ (k : Nat) (hk : k < s.Items.length), n = (k : Int) + 1 ∧ s.Items[k].State = 1 := by
  simp only [wt, Bool.and_eq_true, decide_eq_true_eq] at h
  obtain ⟨⟨h1, h2⟩, h3⟩ := h
  refine ⟨(n - 1).toNat, by omega, by omega, ?_⟩
  rw [List.getElem?_eq_getElem (by omega)] at h3
  simpa using h3
theorem set4 {s : T_Spool} (hid : Ids s) {k : Nat} (hk : k < s.Items.length) : s.Items.set k ⟨s.Items[k].Id, s.Items[k].Mail, 4, s.Items[k].Pack⟩ = s.Items.map (f4 ((k : Int) + 1)) := by
  refine List.ext_getElem (by simp) fun i h1 h2 => ?_
  have hi : i < s.Items.length := by simpa using h2
  rw [List.getElem_map, List.getElem_set]
  by_cases h : k = i
  · subst h
    rw [if_pos rfl]
    simp only [f4, if_pos (hid k hk)]
  · rw [if_neg h]
    have := hid i hi
    simp only [f4]
    rw [if_neg (by omega)]
theorem okS_ok {s : T_Spool} {r : T_Rec} (h : okS s r = true) : (r.Kind = 1 ∧ s.Items.length < 60 ∧ r.Id = (s.Items.length : Int) + 1 ∧ (r.Origin = 0 ∨ r.Origin = 1)) ∨ (r.Kind = 2 ∧ r.Number = s.Packs + 1 ∧ idsB s r.Ids = true) ∨ (r.Kind = 3 ∧ 1 ≤ r.Number ∧ r.Number ≤ s.Packs ∧ r.Number ∉ s.Sent) ∨ (r.Kind = 4 ∧ wt s r.Id = true) ∨ (r.Kind = 5 ∧ opn s r.Number = true ∧ ckB s r = true) ∨ (r.Kind = 6 ∧ opn s r.Number = true) := by
  unfold okS okR at h
  rw [Bool.and_eq_true] at h
  replace h := h.2
  by_cases k1 : r.Kind = 1
  · rw [if_pos k1, Bool.and_eq_true] at h; exact .inl ⟨k1, of_decide_eq_true h.1⟩
  rw [if_neg k1] at h
  by_cases k2 : r.Kind = 2
  · rw [if_pos k2, Bool.and_eq_true] at h; exact .inr (.inl ⟨k2, of_decide_eq_true h.1, h.2⟩)
  rw [if_neg k2] at h
  by_cases k3 : r.Kind = 3
  · rw [if_pos k3] at h; exact .inr (.inr (.inl ⟨k3, of_decide_eq_true h⟩))
  rw [if_neg k3] at h
  by_cases k4 : r.Kind = 4
  · rw [if_pos k4] at h; exact .inr (.inr (.inr (.inl ⟨k4, h⟩)))
  rw [if_neg k4] at h
  by_cases k5 : r.Kind = 5
  · rw [if_pos k5, Bool.and_eq_true] at h; exact .inr (.inr (.inr (.inr (.inl ⟨k5, h⟩))))
  rw [if_neg k5] at h
  by_cases k6 : r.Kind = 6
  · rw [if_pos k6] at h; exact .inr (.inr (.inr (.inr (.inr ⟨k6, h⟩))))
  rw [if_neg k6] at h; cases h
theorem eff1 {s : T_Spool} {r : T_Rec} (h : r.Kind = 1) : eff s r = ⟨s.Items ++ [⟨r.Id, r.Mail, if r.Origin = 0 then 3 else 1, 0⟩], s.Packs, s.Sent, s.Part, s.Of, s.Done⟩ := by unfold eff; rw [if_pos h]
theorem eff2 {s : T_Spool} {r : T_Rec} (h : r.Kind = 2) : eff s r = ⟨s.Items.map (f2 r.Ids r.Number), r.Number, s.Sent, s.Part, s.Of, s.Done⟩ := by unfold eff; rw [if_neg (by omega), if_pos h]
theorem eff3 {s : T_Spool} {r : T_Rec} (h : r.Kind = 3) : eff s r = ⟨s.Items.map (f3 r.Number), s.Packs, s.Sent ++ [r.Number], s.Part, s.Of, s.Done⟩ := by unfold eff; rw [if_neg (by omega), if_neg (by omega), if_pos h]
theorem eff4 {s : T_Spool} {r : T_Rec} (h : r.Kind = 4) : eff s r = ⟨s.Items.map (f4 r.Id), s.Packs, s.Sent, s.Part, s.Of, s.Done⟩ := by unfold eff; rw [if_neg (by omega), if_neg (by omega), if_neg (by omega), if_pos h]
theorem eff5 {s : T_Spool} {r : T_Rec} (h : r.Kind = 5) : eff s r = ⟨s.Items, s.Packs, s.Sent, if r.Offset = 0 then r.Data else s.Part ++ r.Data, if r.Offset = 0 then r.Number else s.Of, s.Done⟩ := by unfold eff; rw [if_neg (by omega), if_neg (by omega), if_neg (by omega), if_neg (by omega), if_pos h]
theorem eff6 {s : T_Spool} {r : T_Rec} (h : r.Kind = 6) : eff s r = ⟨s.Items, s.Packs, s.Sent, if s.Of = r.Number then [] else s.Part, if s.Of = r.Number then -1 else s.Of, insS s.Done r.Number⟩ := by unfold eff; rw [if_neg (by omega), if_neg (by omega), if_neg (by omega), if_neg (by omega), if_neg (by omega)]
theorem f2_id (l : List Int) (n : Int) (x : T_Item) : (f2 l n x).Id = x.Id ∧ (f2 l n x).Mail = x.Mail := by unfold f2; split <;> exact ⟨rfl, rfl⟩
theorem f3_id (n : Int) (x : T_Item) : (f3 n x).Id = x.Id ∧ (f3 n x).Mail = x.Mail := by unfold f3; split <;> exact ⟨rfl, rfl⟩
theorem f4_id (n : Int) (x : T_Item) : (f4 n x).Id = x.Id ∧ (f4 n x).Mail = x.Mail := by unfold f4; split <;> exact ⟨rfl, rfl⟩
theorem inv_map {s : T_Spool} (f : T_Item → T_Item) (hf : ∀ x, (f x).Id = x.Id ∧ (f x).Mail = x.Mail) (hi : Ids s) (hm : ∀ x ∈ s.Items, LM x.Mail) {p : Int} {a b d : List Int} {o : Int} : Ids ⟨s.Items.map f, p, a, b, o, d⟩ ∧ ∀ x ∈ s.Items.map f, LM x.Mail := by
  refine ⟨fun i h => ?_, fun x hx => ?_⟩
  · have h' : i < s.Items.length := by simpa using h
    show ((s.Items.map f)[i]'h).Id = _
    rw [List.getElem_map, (hf _).1]
    exact hi i h'
  · obtain ⟨y, hy, rfl⟩ := List.mem_map.1 hx
    rw [(hf y).2]; exact hm y hy
theorem inv_eff {n : Nat} {s : T_Spool} {r : T_Rec} (hn1 : n + 1 < 1000000) (hs : Inv n s) (hr : Rok r) (ho : okS s r = true) : Inv (n + 1) (eff s r) := by
  have hl := hs.len; have hp := hs.part; have hse := hs.sent; have hd := hs.done; have hpk := hs.packs
  rcases okS_ok ho with ⟨k, a, b, c⟩ | ⟨k, a, b⟩ | ⟨k, a, b, c⟩ | ⟨k, a⟩ | ⟨k, a, b⟩ | ⟨k, a⟩
  · rw [eff1 k]
    refine ⟨hn1, by simp; omega, fun i h => ?_, fun x hx => ?_, ⟨hpk.1, (by omega : s.Packs ≤ ((n + 1 : Nat) : Int))⟩, Nat.le_succ_of_le hse, hp, Nat.le_succ_of_le hd, hs.srt⟩
    · have h' : i < s.Items.length + 1 := by simpa using h
      show ((s.Items ++ [_])[i]'h).Id = _
      by_cases hi : i < s.Items.length
      · rw [List.getElem_append_left hi]; exact hs.ids i hi
      · rw [List.getElem_append_right (by omega)]
        have e : i - s.Items.length = 0 := by omega
        simp only [e, List.getElem_cons_zero]
        rw [b]; omega
    · rcases List.mem_append.1 hx with h | h
      · exact hs.lm x h
      · rw [List.mem_singleton.1 h]; exact hr.1.2.2
  · rw [eff2 k]
    have hm := inv_map (f2 r.Ids r.Number) (f2_id _ _) hs.ids hs.lm (p := r.Number) (a := s.Sent) (b := s.Part) (o := s.Of) (d := s.Done)
    refine ⟨hn1, by simp; omega, hm.1, hm.2, ⟨by show 0 ≤ r.Number; omega, by show r.Number ≤ _; omega⟩, Nat.le_succ_of_le hse, hp, Nat.le_succ_of_le hd, hs.srt⟩
  · rw [eff3 k]
    have hm := inv_map (f3 r.Number) (f3_id _) hs.ids hs.lm (p := s.Packs) (a := s.Sent ++ [r.Number]) (b := s.Part) (o := s.Of) (d := s.Done)
    refine ⟨hn1, by simp; omega, hm.1, hm.2, ⟨hpk.1, (by omega : s.Packs ≤ ((n + 1 : Nat) : Int))⟩, (by simp; omega), hp, Nat.le_succ_of_le hd, hs.srt⟩
  · rw [eff4 k]
    have hm := inv_map (f4 r.Id) (f4_id _) hs.ids hs.lm (p := s.Packs) (a := s.Sent) (b := s.Part) (o := s.Of) (d := s.Done)
    refine ⟨hn1, by simp; omega, hm.1, hm.2, ⟨hpk.1, (by omega : s.Packs ≤ ((n + 1 : Nat) : Int))⟩, Nat.le_succ_of_le hse, hp, Nat.le_succ_of_le hd, hs.srt⟩
  · rw [eff5 k]
    refine ⟨hn1, Nat.le_succ_of_le hl, hs.ids, hs.lm, ⟨hpk.1, (by omega : s.Packs ≤ ((n + 1 : Nat) : Int))⟩, Nat.le_succ_of_le hse, ?_, Nat.le_succ_of_le hd, hs.srt⟩
    simp only [ckB, Bool.and_eq_true, Bool.or_eq_true, decide_eq_true_eq] at b
    show (if r.Offset = 0 then r.Data else s.Part ++ r.Data).length ≤ 5000
    split
    · omega
    · rw [List.length_append]; omega
  · rw [eff6 k]
    have hnd : r.Number ∉ s.Done := by
      simp only [opn, Bool.and_eq_true, Bool.not_eq_true', decide_eq_false_iff_not] at a
      exact a.2
    refine ⟨hn1, Nat.le_succ_of_le hl, hs.ids, hs.lm, ⟨hpk.1, (by omega : s.Packs ≤ ((n + 1 : Nat) : Int))⟩, Nat.le_succ_of_le hse, ?_, by show (insS s.Done r.Number).length ≤ _; rw [insS_len]; omega, insS_srt hs.srt hnd⟩
    show (if s.Of = r.Number then [] else s.Part).length ≤ 5000
    split
    · simp
    · exact hp
theorem inv_new : Inv 0 ⟨[], 0, [], [], -1, []⟩ := ⟨by omega, by simp, fun i h => absurd h (by simp), by simp, ⟨by simp, by simp⟩, by simp, by simp, by simp, List.Pairwise.nil⟩
def noSp : T_Spool := ⟨[], 0, [], [], 0, []⟩
def foldS : T_Spool → List T_Rec → T_Spool × Nat
  | s, [] => (s, 0)
  | s, r :: l => if okS s r = true then ((foldS (eff s r) l).1, (foldS (eff s r) l).2 + 1) else (s, 0)
def newSp : T_Spool := ⟨[], 0, [], [], -1, []⟩
theorem foldS_le : ∀ (s : T_Spool) (l : List T_Rec), (foldS s l).2 ≤ l.length
  | s, [] => Nat.le_refl _
  | s, r :: l => by
    simp only [foldS]
    split
    · have := foldS_le (eff s r) l
      simp only [List.length_cons]; omega
    · simp
theorem foldS_inv : ∀ (l : List T_Rec) (s : T_Spool) (i : Nat), i + l.length < 1000000 → (∀ r ∈ l, Rok r) → Inv i s → Inv (i + (foldS s l).2) (foldS s l).1
  | [], s, i, _, _, hs => hs
  | r :: l, s, i, hl, hr, hs => by
    simp only [foldS]
    simp only [List.length_cons] at hl
    split
    · rename_i ho
      have := foldS_inv l (eff s r) (i + 1) (by omega) (fun x hx => hr x (List.mem_cons_of_mem _ hx)) (inv_eff (by omega) hs (hr r List.mem_cons_self) ho)
      simpa [Nat.add_assoc, Nat.add_comm 1] using this
    · exact hs
def Stt (x : T_Item) : Prop := (x.State = 1 → x.Pack = 0) ∧ (x.Pack ≠ 0 → x.State = 2 ∨ x.State = 3)
def way (a b : Int) : Prop := a = b ∨ (a = 1 ∧ (b = 2 ∨ b = 4)) ∨ (a = 2 ∧ b = 3)
structure Goes (a b : T_Item) : Prop where
  id : a.Id = b.Id
  mail : a.Mail = b.Mail
  way : way a.State b.State
  pack : a.Pack ≠ 0 → a.Pack = b.Pack
theorem goes_refl (a : T_Item) : Goes a a := ⟨rfl, rfl, .inl rfl, fun _ => rfl⟩
structure Next (s t : T_Spool) : Prop where
  len : s.Items.length ≤ t.Items.length
  len1 : t.Items.length ≤ s.Items.length + 1
  packs : s.Packs ≤ t.Packs
  done : s.Done.length ≤ t.Done.length
  sent : s.Sent.length ≤ t.Sent.length
  goes : ∀ k (h : k < s.Items.length) (h' : k < t.Items.length), Goes s.Items[k] t.Items[k]
  new : ∀ h : s.Items.length < t.Items.length, t.Items[s.Items.length].State = 1 ∨ t.Items[s.Items.length].State = 3
  stt : ∀ x ∈ t.Items, Stt x
theorem ids_wt {s : T_Spool} {ids : List Int} (h : idsB s ids = true) : ∀ n ∈ ids, wt s n = true := by
  intro n hn
  obtain ⟨i, hi, rfl⟩ := List.getElem_of_mem hn
  simp only [idsB, Bool.and_eq_true, decide_eq_true_eq] at h
  have h2 := h.2 i hi
  simp only [idB, Bool.and_eq_true] at h2
  have e : ids.getD i 0 = ids[i] := by simp [List.getD, hi]
  rw [e] at h2
  exact h2.2
theorem wt_item {s : T_Spool} (hid : Ids s) {k : Nat} (hk : k < s.Items.length) (h : wt s s.Items[k].Id = true) : s.Items[k].State = 1 := by
  obtain ⟨j, hj, he, hs⟩ := wt_at h
  rw [hid k hk] at he
  obtain rfl : j = k := by omega
  exact hs
theorem next_map {s : T_Spool} (f : T_Item → T_Item) (hs : ∀ x ∈ s.Items, Stt x) (hg : ∀ k (h : k < s.Items.length), Goes s.Items[k] (f s.Items[k]) ∧ Stt (f s.Items[k])) {p : Int} {a b d : List Int} {o : Int} (hp : s.Packs ≤ p) (ha : s.Sent.length ≤ a.length) (hd : s.Done.length ≤ d.length) : Next s ⟨s.Items.map f, p, a, b, o, d⟩ := by
  refine ⟨by simp, by simp, hp, hd, ha, fun k h h' => ?_, fun h => absurd h (by simp), fun x hx => ?_⟩
  · show Goes s.Items[k] ((s.Items.map f)[k]'h')
    rw [List.getElem_map]; exact (hg k h).1
  · obtain ⟨y, hy, rfl⟩ := List.mem_map.1 hx
    obtain ⟨k, hk, rfl⟩ := List.getElem_of_mem hy
    exact (hg k hk).2
theorem next_same {s : T_Spool} (hs : ∀ x ∈ s.Items, Stt x) {p : Int} {a b d : List Int} {o : Int} (hp : s.Packs ≤ p) (ha : s.Sent.length ≤ a.length) (hd : s.Done.length ≤ d.length) : Next s ⟨s.Items, p, a, b, o, d⟩ :=
  ⟨Nat.le_refl _, by simp, hp, hd, ha, fun k h h' => goes_refl _, fun h => absurd h (by simp), hs⟩
theorem next_eff {n : Nat} {s : T_Spool} {r : T_Rec} (hi : Inv n s) (hs : ∀ x ∈ s.Items, Stt x) (ho : okS s r = true) : Next s (eff s r) := by
  have hpk := hi.packs
  rcases okS_ok ho with ⟨k, a, b, c⟩ | ⟨k, a, b⟩ | ⟨k, a, b, c⟩ | ⟨k, a⟩ | ⟨k, a, b⟩ | ⟨k, a⟩
  · rw [eff1 k]
    refine ⟨by simp, by simp, Int.le_refl _, Nat.le_refl _, Nat.le_refl _, fun k h h' => ?_, fun h => ?_, fun x hx => ?_⟩
    · show Goes s.Items[k] ((s.Items ++ [_])[k]'h')
      rw [List.getElem_append_left h]; exact goes_refl _
    · show ((s.Items ++ [_])[s.Items.length]'h).State = 1 ∨ ((s.Items ++ [_])[s.Items.length]'h).State = 3
      rw [List.getElem_append_right (by omega)]
      simp only [Nat.sub_self, List.getElem_cons_zero]
      split
      · exact .inr rfl
      · exact .inl rfl
    · rcases List.mem_append.1 hx with h | h
      · exact hs x h
      · rw [List.mem_singleton.1 h]
        exact ⟨fun _ => rfl, fun h => absurd rfl h⟩
  · rw [eff2 k]
    refine next_map _ hs (fun j hj => ?_) (by omega) (Nat.le_refl _) (Nat.le_refl _)
    by_cases hm : s.Items[j].Id ∈ r.Ids
    · have h1 := wt_item hi.ids hj (ids_wt b _ hm)
      have h0 := (hs _ (List.getElem_mem hj)).1 h1
      simp only [f2, if_pos hm]
      exact ⟨⟨rfl, rfl, .inr (.inl ⟨h1, .inl rfl⟩), fun h => absurd h0 h⟩, ⟨fun h => absurd h (by show (2 : Int) ≠ 1; omega), fun _ => .inl rfl⟩⟩
    · simp only [f2, if_neg hm]
      exact ⟨goes_refl _, hs _ (List.getElem_mem hj)⟩
  · rw [eff3 k]
    refine next_map _ hs (fun j hj => ?_) (Int.le_refl _) (by simp) (Nat.le_refl _)
    by_cases hm : s.Items[j].Pack = r.Number
    · have h1 := (hs _ (List.getElem_mem hj)).2 (by omega)
      simp only [f3, if_pos hm]
      exact ⟨⟨rfl, rfl, h1.elim (fun h => .inr (.inr ⟨h, rfl⟩)) (fun h => .inl h), fun h => rfl⟩, ⟨fun h => absurd h (by show (3 : Int) ≠ 1; omega), fun _ => .inr rfl⟩⟩
    · simp only [f3, if_neg hm]
      exact ⟨goes_refl _, hs _ (List.getElem_mem hj)⟩
  · rw [eff4 k]
    refine next_map _ hs (fun j hj => ?_) (Int.le_refl _) (Nat.le_refl _) (Nat.le_refl _)
    by_cases hm : s.Items[j].Id = r.Id
    · have h1 := wt_item hi.ids hj (by rw [hm]; exact a)
      have h0 := (hs _ (List.getElem_mem hj)).1 h1
      simp only [f4, if_pos hm]
      exact ⟨⟨rfl, rfl, .inr (.inl ⟨h1, .inr rfl⟩), fun h => rfl⟩, ⟨fun h => absurd h (by show (4 : Int) ≠ 1; omega), fun h => absurd h0 h⟩⟩
    · simp only [f4, if_neg hm]
      exact ⟨goes_refl _, hs _ (List.getElem_mem hj)⟩
  · rw [eff5 k]
    exact next_same hs (Int.le_refl _) (Nat.le_refl _) (Nat.le_refl _)
  · rw [eff6 k]
    exact next_same hs (Int.le_refl _) (Nat.le_refl _) (by rw [insS_len]; omega)
theorem rok_of {r : T_Rec} (h : T_Rec.wz r) (hl : LR r) : Rok r := by
  refine ⟨hl, fun x hx => ?_⟩
  obtain ⟨_, ⟨_, _, ⟨_, h4⟩, _⟩, _⟩ := h
  have := h4 x hx
  simp only [wfI, Lit.wf, IntKind.min, IntKind.max, IntKind.signed, IntKind.bits] at this
  have h2 : 0 ≤ x ∧ x ≤ 255 := by simpa using this
  omega
theorem heavy_rok (l : List T_Rec) (hw : wzL 208 T_Rec.wz l) : ∃ b, wherrylaw18_Heavy l = some b ∧ (b = false → l.length ≤ 60 ∧ ∀ r ∈ l, Rok r) := by
  have hl := hw.1
  simp only [reachBytes] at hl
  obtain ⟨b, h, hb⟩ := heavy18 l (fun r hr => re_of (hw.2 r hr)) (by omega)
  exact ⟨b, h, fun e => ⟨(hb e).1, fun r hr => rok_of (hw.2 r hr) ((hb e).2 r hr)⟩⟩
theorem spo_rem (z : Int) (n : Nat) (h0 : 0 < n) (hn : n ≤ 1000000) : ∃ q : Nat, q < n ∧ remO (IntKind.u64.wrap z) (IntKind.u64.wrap (n : Int)) = some (q : Int) := by
  have e : (2 : Int) ^ 64 = 18446744073709551616 := by decide
  have h0' : 0 ≤ IntKind.u64.wrap z := by
    simp only [IntKind.wrap, IntKind.bits, IntKind.signed]
    simp only [e, Bool.false_and, Bool.false_eq_true, if_false]
    omega
  have hnw : IntKind.u64.wrap (n : Int) = (n : Int) := by
    simp only [IntKind.wrap, IntKind.bits, IntKind.signed]
    simp only [e, Bool.false_and, Bool.false_eq_true, if_false]
    omega
  obtain ⟨m, hm⟩ : ∃ m : Nat, IntKind.u64.wrap z = (m : Int) := ⟨(IntKind.u64.wrap z).toNat, by omega⟩
  rw [hm, hnw]
  refine ⟨m % n, Nat.mod_lt _ h0, ?_⟩
  rw [rem_nat _ _ h0]
theorem twin_mail {m : T_Mail} (h : LM m) : wherrykeep_TwinMail m = some m := by
  obtain ⟨h1, h2⟩ := h
  simp only [mW] at h2
  simp only [wherrykeep_TwinMail, wherrykeep_TwinPaths, wherrykeep_Twin]
  rw [app_nil (by omega) (by omega), app_nil (by omega) (by omega)]; rfl
end Go.Abs.Sh
