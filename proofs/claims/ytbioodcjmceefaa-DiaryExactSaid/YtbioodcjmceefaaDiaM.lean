import Derived.Test.YtbioodcjmceefaaHeavM
namespace Go.Abs.Sh
set_option linter.unusedVariables false
theorem wakes18 : wherrylaw18_wakes = some true := by kernel_rfl
def room (r : T_Rec) : Nat := 24 + (r.Data.length + r.Mail.Body.length + r.Mail.Helo.size) + 80 * (1 + r.Mail.To.length) + 8 * r.Ids.length
theorem room_le {r : T_Rec} (h : LR r) : room r ≤ 25000 := by
  obtain ⟨h1, h2, h3, h4⟩ := h
  simp only [mW] at h4
  simp only [room]; omega
theorem room_eq {r : T_Rec} (h : LR r) : diary_Room r = some ((room r : Nat) : Int) := by
  obtain ⟨h1, h2, h3, h4⟩ := h
  simp only [mW] at h4
  simp only [diary_Room, Option.bind_some]
  have e1 : IntKind.i64.wrap ((r.Data.length : Int) + (r.Mail.Body.length : Int)) = ((r.Data.length + r.Mail.Body.length : Nat) : Int) := Option.some.inj (wadd (by omega))
  rw [e1]
  have e2 : IntKind.i64.wrap (((r.Data.length + r.Mail.Body.length : Nat) : Int) + (r.Mail.Helo.size : Int)) = ((r.Data.length + r.Mail.Body.length + r.Mail.Helo.size : Nat) : Int) := Option.some.inj (wadd (by omega))
  rw [e2]
  have e3 : IntKind.i64.wrap (1 + (r.Mail.To.length : Int)) = ((1 + r.Mail.To.length : Nat) : Int) := by rw [wrap_i64 (by omega) (by omega)]; simp
  rw [e3]
  have e4 : IntKind.i64.wrap (24 + ((r.Data.length + r.Mail.Body.length + r.Mail.Helo.size : Nat) : Int)) = ((24 + (r.Data.length + r.Mail.Body.length + r.Mail.Helo.size) : Nat) : Int) := by rw [wrap_i64 (by omega) (by omega)]; simp
  rw [e4]
  have e5 : IntKind.i64.wrap (80 * ((1 + r.Mail.To.length : Nat) : Int)) = ((80 * (1 + r.Mail.To.length) : Nat) : Int) := by rw [wrap_i64 (by omega) (by omega)]; simp
  rw [e5]
  rw [Option.some.inj (wadd (a := 24 + (r.Data.length + r.Mail.Body.length + r.Mail.Helo.size)) (b := 80 * (1 + r.Mail.To.length)) (by omega))]
  have e6 : IntKind.i64.wrap (8 * (r.Ids.length : Int)) = ((8 * r.Ids.length : Nat) : Int) := by rw [wrap_i64 (by omega) (by omega)]; simp
  rw [e6]
  rw [Option.some.inj (wadd (a := 24 + (r.Data.length + r.Mail.Body.length + r.Mail.Helo.size) + 80 * (1 + r.Mail.To.length)) (b := 8 * r.Ids.length) (by omega))]
  rfl
theorem app_nil {A : Type} {k : Nat} {l : List A} (h : l.length * k ≤ 140737488355328) (h1 : l.length ≤ 140737488355328) : appO k [] l = some l := by
  rw [app_of (by simpa using h) (by simpa using h1)]; rfl
theorem clone_mail {m : T_Mail} (h : LM m) : clone_Mail m = some m := by
  obtain ⟨h1, h2⟩ := h
  simp only [mW] at h2
  simp only [clone_Mail, clone_List_api_Path, clone_List_byte]
  rw [app_nil (by omega) (by omega), app_nil (by omega) (by omega)]; rfl
theorem clone_rec {r : T_Rec} (h : LR r) : clone_Rec r = some r := by
  obtain ⟨h1, h2, h3⟩ := h
  have hm := clone_mail h3
  simp only [clone_Rec, clone_List_int, clone_List_byte]
  refine bnd hm ?_
  rw [app_nil (by omega) (by omega), app_nil (by omega) (by omega)]; rfl
theorem new_eq (n : Int) : diary_New n = some (if n < 1 ∨ 131072 < n then (none, 1) else (some (T_diary_Diary.mk n [] 0 0 0 0 false 0 0), 0)) := by
  simp only [diary_New]
  by_cases h1 : n < 1
  · rw [if_pos (.inl h1)]
    exact bndL (s := true) (cnd_t (decide_eq_true h1) rfl) rfl
  · by_cases h2 : 131072 < n
    · rw [if_pos (.inr h2)]
      exact bndL (s := true) (cnd_f (decide_eq_false h1) (by rw [decide_eq_true h2])) rfl
    · rw [if_neg (by omega)]
      exact bndL (s := false) (cnd_f (decide_eq_false h1) (by rw [decide_eq_false h2])) rfl
end Go.Abs.Sh
