import Derived.Test.YtccfiglffammoaaDoorRepE
namespace Go.Abs.Sh
set_option linter.unusedVariables false
set_option linter.unusedSimpArgs false
set_option maxRecDepth 100000
theorem wakes16 : wherrylaw16_wakes = some true := by kernel_rfl
theorem wadd16 {a b : Nat} (h : a + b < 9223372036854775808) : some (IntKind.i64.wrap ((a : Int) + (b : Int))) = some ((a + b : Nat) : Int) := by
  rw [wrap_i64 (by omega) (by omega)]; simp
theorem sz_of {s : ByteArray} (h : wzS s) : s.size ≤ 140737488351232 := by simpa only [wzS, reachBytes] using h
theorem pz_of {p : T_Path} (h : T_Path.wz p) : p.Local.size ≤ 140737488351232 ∧ p.Domain.size ≤ 140737488351232 := ⟨sz_of h.2.1, sz_of h.2.2⟩
theorem rg_sm {site : ByteArray} {s p : T_Path} (h : rg site s p = true) : site.size ≤ 255 ∧ Sm s ∧ Sm p := by
  obtain ⟨h1, h2, h3, h4, h5⟩ := rg_of h
  have a := domB_len h1
  rw [sbytes_len] at a
  obtain ⟨_, b1, b2⟩ := pat_txt h2 h3
  obtain ⟨_, c1, c2⟩ := pat_txt h4 h5
  have b1 := locB_len b1; have b2 := domB_len b2; have c1 := locB_len c1; have c2 := domB_len c2
  rw [sbytes_len] at b1 b2 c1 c2
  exact ⟨a, ⟨by omega, by omega⟩, ⟨by omega, by omega⟩⟩
theorem rg_txt {site : ByteArray} {s p : T_Path} (h : rg site s p = true) : (txtL s).length ≤ 400 ∧ (txtL p).length ≤ 400 := by
  obtain ⟨h1, h2, h3, h4, h5⟩ := rg_of h
  obtain ⟨e, b1, b2⟩ := pat_txt h2 h3
  obtain ⟨e', c1, c2⟩ := pat_txt h4 h5
  have b1 := locB_len b1; have b2 := domB_len b2; have c1 := locB_len c1; have c2 := domB_len c2
  rw [e, e']
  simp only [List.length_cons, List.length_append, List.length_nil]
  omega
theorem rep_short {site : ByteArray} {s p : T_Path} (h : rg site s p = true) : (repOf (site, s, p)).length ≤ 2200 := by
  have h1 := rg_txt h
  have h2 := (rg_sm h).1
  show (jn (repL (sbytes site) (txtL s) (txtL p))).length ≤ _
  rw [jn_len, rep_tot, sbytes_len]
  omega
theorem keepP_self (a : T_Path) : wherrykeep_Path a a = some true := by rw [keepPath]; simp
theorem str_self (s : ByteArray) : (s.toList == s.toList) = true := by simp
end Go.Abs.Sh
