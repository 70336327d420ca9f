import Derived.Test.YtjdmcbkkacnmdaaGreatDoorHeavM
namespace Go.Abs.Sh
set_option linter.unusedVariables false
set_option linter.unusedSimpArgs false
set_option maxRecDepth 10000
def room (r : T_Rec) : Nat := 24 + (r.Data.length + r.Mail.Body.length + r.Mail.Helo.size) + 80 * (1 + r.Mail.To.length) + 8 * r.Ids.length
theorem app_nil {A : Type} {k : Nat} {l : List A} (h : l.length * k ≤ 140737488355328) (h1 : l.length ≤ 140737488355328) : appO k [] l = some l := by
 rw [app_of (by simpa using h) (by simpa using h1)]; rfl
theorem clone_mail {m : T_Mail} (h : LM m) : clone_Mail m = some m := by
 obtain ⟨h1,h2⟩ := h
 simp only [mW] at h2
 simp only [clone_Mail,clone_List_api_Path,clone_List_byte]
 rw [app_nil (by omega) (by omega),app_nil (by omega) (by omega)]; rfl
theorem re_of {r : T_Rec} (h : T_Rec.wz r) : mRe r.Mail ∧ r.Data.length < 140737488355328 ∧ r.Ids.length < 140737488355328 := by
 obtain ⟨_,⟨⟨_,h1,h2⟩,⟨h3,h4⟩,⟨h5,_⟩,_,h6,_⟩,_,⟨h7,_⟩,_,_,_,⟨h8,_⟩⟩ := h
 simp only [wzS,reachBytes] at h1 h2 h6
 simp only [reachBytes] at h3 h5 h7 h8
 refine ⟨⟨by omega,by omega,by omega,by omega,by omega,fun p hp => ?_⟩,by omega,by omega⟩
 have := h4 p hp
 simp only [T_Path.wz,wzS,reachBytes] at this
 omega
def paS (a b : List T_Path) : ((Int)) → Option ((Int) ⊕ ((Unit) ⊕ Bool)) := (fun (s13 : Int) =>
  cond ((decide (s13 < (a.length : Int))))
   ((ixO s13 a.length).bind fun v3 =>
   (getO a v3).bind fun v4 =>
   (ixO s13 b.length).bind fun v5 =>
   (getO b v5).bind fun v6 =>
   (wherrykeep_Path v4 v6).bind fun v7 =>
   cond ((!v7))
    (some (.inr (.inr (false))))
    ((some (IntKind.i64.wrap (s13 + 1))).bind fun v9 =>
    some (.inl v9)))
   (some (.inr (.inl ()))))
def inS (a b : List Int) : ((Int)) → Option ((Int) ⊕ ((Unit) ⊕ Bool)) := (fun (s12 : Int) =>
  cond ((decide (s12 < (a.length : Int))))
   ((ixO s12 a.length).bind fun v3 =>
   (getO a v3).bind fun v4 =>
   (ixO s12 b.length).bind fun v5 =>
   (getO b v5).bind fun v6 =>
   cond ((v4 != v6))
    (some (.inr (.inr (false))))
    ((some (IntKind.i64.wrap (s12 + 1))).bind fun v8 =>
    some (.inl v8)))
   (some (.inr (.inl ()))))
theorem take_succ {A : Type} (l : List A) (k : Nat) (hk : k < l.length) : l.take (k + 1) = l.take k ++ [l[k]] := by
 rw [List.take_add_one,List.getElem?_eq_getElem hk]; rfl
end Go.Abs.Sh
