import Derived.Test.YtccfiglffammoaaDoorRepE
namespace Go.Abs.Sh
set_option linter.unusedVariables false
set_option linter.unusedSimpArgs false
set_option maxRecDepth 100000
theorem wakes16 : wherrylaw16_wakes = some true := by kernel_rfl
theorem wadd16 {a b : Nat} (h : a + b < 9223372036854775808) : some (IntKind.i64.wrap ((a : Int) + (b : Int))) = some ((a + b : Nat) : Int) := by
  rw [wrap_i64 (by omega) (by omega)]; simp
theorem sz_of {s : ByteArray} (h : wzS s) : s.size ≤ 140737488351232 := by simpa only [wzS, reachBytes] using h
theorem pz_of {p : T_Path} (h : T_Path.wz p) : p.Local.size ≤ 140737488351232 ∧ p.Domain.size ≤ 140737488351232 := ⟨sz_of h.2.1, sz_of h.2.2⟩
theorem bz_of {l : List Int} (h : wzL 1 (wfI .u8) l) : byt l := byt_of_wf ⟨by have := h.1; simp only [reachBytes] at this; simp only [maxLen]; omega, h.2⟩
theorem rg_sm {site : ByteArray} {s p : T_Path} (h : rg site s p = true) : site.size ≤ 255 ∧ Sm s ∧ Sm p := by
  obtain ⟨h1, h2, h3, h4, h5⟩ := rg_of h
  have a := domB_len h1
  rw [sbytes_len] at a
  obtain ⟨_, b1, b2⟩ := pat_txt h2 h3
  obtain ⟨_, c1, c2⟩ := pat_txt h4 h5
  have b1 := locB_len b1; have b2 := domB_len b2; have c1 := locB_len c1; have c2 := domB_len c2
  rw [sbytes_len] at b1 b2 c1 c2
  exact ⟨a, ⟨by omega, by omega⟩, ⟨by omega, by omega⟩⟩
theorem rg_txt {site : ByteArray} {s p : T_Path} (h : rg site s p = true) : (txtL s).length ≤ 400 ∧ (txtL p).length ≤ 400 := by
  obtain ⟨h1, h2, h3, h4, h5⟩ := rg_of h
  obtain ⟨e, b1, b2⟩ := pat_txt h2 h3
  obtain ⟨e', c1, c2⟩ := pat_txt h4 h5
  have b1 := locB_len b1; have b2 := domB_len b2; have c1 := locB_len c1; have c2 := domB_len c2
  rw [e, e']
  simp only [List.length_cons, List.length_append, List.length_nil]
  omega
theorem rep_short {site : ByteArray} {s p : T_Path} (h : rg site s p = true) : (repOf (site, s, p)).length ≤ 2200 := by
  have h1 := rg_txt h
  have h2 := (rg_sm h).1
  show (jn (repL (sbytes site) (txtL s) (txtL p))).length ≤ _
  rw [jn_len, rep_tot, sbytes_len]
  omega
theorem keepB_self (a : List Int) (h : a.length < 4294967296) : wherrykeep_Bytes a a = some true := by rw [keepB a a h]; simp
theorem keepP_self (a : T_Path) : wherrykeep_Path a a = some true := by rw [keepPath]; simp
theorem str_self (s : ByteArray) : (s.toList == s.toList) = true := by simp
theorem reportExact_true (site : ByteArray) (sender rcpt : T_Path) (b : List Int) (h0 : wzS site) (h1 : T_Path.wz sender) (h2 : T_Path.wz rcpt) (h3 : wzL 1 (wfI .u8) b) : wherrylaw16_ReportExact site sender rcpt b = some true := by
  have s0 := sz_of h0
  have s1 := pz_of h1
  have s2 := pz_of h2
  have hb := bz_of h3
  have s3 := h3.1
  simp only [reachBytes] at s3
  unfold wherrylaw16_ReportExact
  have sum : ∀ {R : Type} (f : Int → Option R), ((some (IntKind.i64.wrap ((site.size : Int) + (sender.Local.size : Int)))).bind fun v1 =>
    (some (IntKind.i64.wrap (v1 + (sender.Domain.size : Int)))).bind fun v2 =>
    (some (IntKind.i64.wrap (v2 + (rcpt.Local.size : Int)))).bind fun v3 =>
    (some (IntKind.i64.wrap (v3 + (rcpt.Domain.size : Int)))).bind f) = f ((site.size + sender.Local.size + sender.Domain.size + rcpt.Local.size + rcpt.Domain.size : Nat) : Int) := fun f =>
    bnd (wadd16 (by omega)) (bnd (wadd16 (by omega)) (bnd (wadd16 (by omega)) (bnd (wadd16 (by omega)) rfl)))
  by_cases hbig : 2000 < site.size + sender.Local.size + sender.Domain.size + rcpt.Local.size + rcpt.Domain.size
  · exact bndL (s := true) ((sum _).trans (cnd_t (decide_eq_true (by omega)) rfl)) (cnd_t rfl rfl)
  by_cases hb3 : 3000 < b.length
  · exact bndL (s := true) ((sum _).trans (cnd_f (decide_eq_false (by omega)) (inl_of (decide_eq_true (by omega))))) (cnd_t rfl rfl)
  refine bndL (s := false) ((sum _).trans (cnd_f (decide_eq_false (by omega)) (inl_of (decide_eq_false (by omega))))) (cnd_f rfl ?_)
  have hs : Sm sender := ⟨by omega, by omega⟩
  have hp : Sm rcpt := ⟨by omega, by omega⟩
  have hrd : ∃ (x : ByteArray) (y z : T_Path) (k : Bool), report_Read b = some (x, y, z, if k then 0 else 5) ∧ wherryref11_ReadReport b = some (x, y, z, k) := by
    by_cases hex : ∃ site s p, rg site s p = true ∧ repOf (site, s, p) = b
    · obtain ⟨x, y, z, hg, rfl⟩ := hex
      have hsm := rg_sm hg
      have hsh := rep_short hg
      exact ⟨x, y, z, true, read_yes hg (by omega), rread_yes hg (by omega) (by omega) hsm.2.1 hsm.2.2⟩
    · have hno : ∀ site s p, rg site s p = true → repOf (site, s, p) ≠ b := fun x y z hg he => hex ⟨x, y, z, hg, he⟩
      obtain ⟨ls, r, H⟩ := lns_ex b.length b (Nat.le_refl _)
      rcases rread_core H hb (by omega) with h | ⟨x, y, z, hg, he, _⟩
      · exact ⟨e0, noP, noP, false, read_no hb (by omega) hno, h⟩
      · exact absurd he (hno x y z hg)
  obtain ⟨x, y, z, k, hr1, hr2⟩ := hrd
  refine bnd (twin15 b (by omega)) (bnd (build_eq site sender rcpt (by omega) hs hp) (bnd hr1 (bnd hr2 (bnd (right_eq site sender rcpt) ?_))))
  refine bndL (s := false) ?_ (cnd_f rfl (bndL (s := true) ?_ rfl))
  · cases hg : rg site sender rcpt
    · rw [if_neg (by simp)]
      exact cnd_f rfl (cnd_t rfl (cnd_f rfl rfl))
    · rw [if_pos rfl]
      have hsh := rep_short hg
      exact cnd_t rfl (cnd_f rfl (bnd (rbuild_eq site sender rcpt (by omega) hs hp) (bnd (keepB_self (repOf (site, sender, rcpt)) (by omega)) (cnd_f rfl (cnd_f rfl rfl)))))
  · cases k
    · exact bnd rfl (cnd_t rfl (cnd_f rfl (cnd_t rfl (cnd_t (str_self x) (bnd (keepP_self y) (cnd_t rfl (bnd (keepP_self z) (cnd_t rfl (bnd (keepB_self b (by omega)) (cnd_t rfl (bnd wakes16 rfl)))))))))))
    · exact bnd rfl (cnd_t rfl (cnd_t rfl (cnd_t (str_self x) (bnd (keepP_self y) (cnd_t rfl (bnd (keepP_self z) (cnd_t rfl (bnd (keepB_self b (by omega)) (cnd_t rfl (bnd wakes16 rfl))))))))))
end Go.Abs.Sh
