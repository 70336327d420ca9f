import Derived.Test.YtabnbhknefibaaaDoorHedD
namespace Go.Abs.Sh
set_option linter.unusedVariables false
set_option linter.unusedSimpArgs false
def InvF (i : Nat) (A : List Int) (fs : List T_Field) : Prop := ∃ L : List (List Int), A = jn L ∧ (∀ l ∈ L, cln l) ∧ (∀ l ∈ L, byt l) ∧ (∀ t, scn (L ++ t) [] 0 = scn t fs (tot L)) ∧ tot L ≤ 100 * i ∧ fs.length ≤ i
theorem byt_line15 (f : T_Field) : byt (lineF f) := byt_app (byt_sbytes _) (fun x hx => by
    rcases List.mem_cons.1 hx with rfl | hx
    · omega
    · exact byt_sbytes _ x hx)
theorem inv_add {i : Nat} {A : List Int} {fs : List T_Field} {f : T_Field} (h : InvF i A fs) (hn : nameOK f.Name) (hb : cln (sbytes f.Body)) (h1 : f.Name.size ≤ 30) (h2 : f.Body.size ≤ 60) : InvF (i + 1) ((A ++ lineF f) ++ [13, 10]) (fs ++ [f]) := by
  obtain ⟨L, g1, g2, g3, g4, g5, g6⟩ := h
  have hlen : (lineF f).length = f.Name.size + (f.Body.size + 1) := by unfold lineF; rw [List.length_append, List.length_cons, sbytes_len, sbytes_len]
  have hcl : cln (lineF f) := fun x hx => by
    rcases List.mem_append.1 hx with hx | hx
    · have := hn.2 x hx; omega
    · rcases List.mem_cons.1 hx with rfl | hx
      · decide
      · exact hb x hx
  refine ⟨L ++ [lineF f], by rw [g1, jn_app]; simp [jn], ?_, ?_, fun t => ?_, by rw [tot_app]; simp only [tot, hlen]; omega, by simp; omega⟩
  · intro l hl
    rcases List.mem_append.1 hl with hl | hl
    · exact g2 l hl
    · rw [List.mem_singleton] at hl; subst hl; exact hcl
  · intro l hl
    rcases List.mem_append.1 hl with hl | hl
    · exact g3 l hl
    · rw [List.mem_singleton] at hl; subst hl; exact byt_line15 f
  · rw [List.append_assoc, g4]
    simp only [List.cons_append, List.nil_append, scn, stp_field fs f hn (by omega), tot_app, tot, Nat.add_zero]
end Go.Abs.Sh
