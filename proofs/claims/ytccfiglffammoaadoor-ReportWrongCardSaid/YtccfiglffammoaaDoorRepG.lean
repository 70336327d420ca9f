import Derived.Test.YtccfiglffammoaaDoorRepF
namespace Go.Abs.Sh
set_option linter.unusedVariables false
set_option linter.unusedSimpArgs false
set_option maxRecDepth 100000
theorem jn_end : ∀ {ls : List (List Int)}, ls ≠ [] → ∃ X, jn ls = X ++ [13, 10]
  | [], h => absurd rfl h
  | [l], _ => ⟨l, rfl⟩
  | l :: m :: ls, _ => by
    obtain ⟨X, hX⟩ := jn_end (ls := m :: ls) (by simp)
    exact ⟨l ++ 13 :: 10 :: X, by rw [show jn (l :: m :: ls) = l ++ 13 :: 10 :: jn (m :: ls) from rfl, hX]; simp⟩
theorem rep_end (c : ByteArray × T_Path × T_Path) : ∃ X, repOf c = X ++ [13, 10] := jn_end (by simp [repL])
def n1 : ByteArray := ⟨#[70, 114, 111, 109]⟩
def n2 : ByteArray := ⟨#[84, 111]⟩
def n3 : ByteArray := ⟨#[83, 117, 98, 106, 101, 99, 116]⟩
def n4 : ByteArray := ⟨#[67, 111, 110, 116, 101, 110, 116, 45, 84, 121, 112, 101]⟩
theorem n_ok (s : ByteArray) (h0 : 0 < s.size) (h : ((sbytes s).all fun x => decide (33 ≤ x) && (decide (x ≤ 126) && decide (x ≠ 58))) = true) : nameOK s := by
  refine ⟨h0, fun x hx => ?_⟩
  have := List.all_eq_true.1 h x hx
  simp only [Bool.and_eq_true, decide_eq_true_eq] at this
  exact this
theorem n1_ok : nameOK n1 := n_ok n1 (by decide) (by kernel_rfl)
theorem n2_ok : nameOK n2 := n_ok n2 (by decide) (by kernel_rfl)
theorem n3_ok : nameOK n3 := n_ok n3 (by decide) (by kernel_rfl)
theorem n4_ok : nameOK n4 := n_ok n4 (by decide) (by kernel_rfl)
theorem rep_scan {S P Q : List Int} (hS : byt S) (hP : byt P) (lS : S.length ≤ 300) (lP : P.length ≤ 500) : (scn (repL S P Q) [] 0).1.length = 4 := by
  have b1 : byt (q1L.drop 5 ++ (S ++ [62])) := byt_app (byt_drop (q_byt _ _ q1_sb) _) (byt_app hS (byt1 (by decide)))
  have b2 : byt (32 :: P) := byt_cons (by decide) hP
  have e1 : lineF ⟨n1, bstr (q1L.drop 5 ++ (S ++ [62]))⟩ = q1L ++ (S ++ [62]) := by
    unfold lineF
    rw [sbytes_bstr b1]; rfl
  have e2 : lineF ⟨n2, bstr (32 :: P)⟩ = q2L ++ P := by
    unfold lineF
    rw [sbytes_bstr b2]; rfl
  have e3 : lineF ⟨n3, bstr (q3L.drop 8)⟩ = q3L := by
    unfold lineF
    rw [sbytes_bstr (byt_drop (q_byt _ _ q3_sb) _)]; rfl
  have e4 : lineF ⟨n4, bstr (q4L.drop 13)⟩ = q4L := by
    unfold lineF
    rw [sbytes_bstr (byt_drop (q_byt _ _ q4_sb) _)]; rfl
  have z1 : (bstr (q1L.drop 5 ++ (S ++ [62]))).size < 999000 := by rw [bstr_size, List.length_append, List.length_append, List.length_drop, q1_len]; simp; omega
  have z2 : (bstr (32 :: P)).size < 999000 := by rw [bstr_size, List.length_cons]; omega
  have z3 : (bstr (q3L.drop 8)).size < 999000 := by rw [bstr_size, List.length_drop, q3_len]; omega
  have z4 : (bstr (q4L.drop 13)).size < 999000 := by rw [bstr_size, List.length_drop, q4_len]; omega
  have h1 := stp_field [] ⟨n1, bstr (q1L.drop 5 ++ (S ++ [62]))⟩ n1_ok (by dsimp only; have : n1.size = 4 := rfl; omega)
  have h2 := stp_field [⟨n1, bstr (q1L.drop 5 ++ (S ++ [62]))⟩] ⟨n2, bstr (32 :: P)⟩ n2_ok (by dsimp only; have : n2.size = 2 := rfl; omega)
  have h3 := stp_field [⟨n1, bstr (q1L.drop 5 ++ (S ++ [62]))⟩, ⟨n2, bstr (32 :: P)⟩] ⟨n3, bstr (q3L.drop 8)⟩ n3_ok (by dsimp only; have : n3.size = 7 := rfl; omega)
  have h4 := stp_field [⟨n1, bstr (q1L.drop 5 ++ (S ++ [62]))⟩, ⟨n2, bstr (32 :: P)⟩, ⟨n3, bstr (q3L.drop 8)⟩] ⟨n4, bstr (q4L.drop 13)⟩ n4_ok (by dsimp only; have : n4.size = 12 := rfl; omega)
  rw [e1] at h1; rw [e2] at h2; rw [e3] at h3; rw [e4] at h4
  simp only [List.nil_append, List.cons_append] at h1 h2 h3 h4
  unfold repL
  simp only [scn, h1, h2, h3, h4, stp_nil, List.length_cons, List.length_nil]
theorem reportBack_true (site : ByteArray) (sender rcpt : T_Path) (more : Int) (h0 : wzS site) (h1 : T_Path.wz sender) (h2 : T_Path.wz rcpt) (h3 : wfI .u8 more) : wherrylaw16_ReportBack site sender rcpt more = some true := by
  have s0 := sz_of h0
  have s1 := pz_of h1
  have s2 := pz_of h2
  have hm : 0 ≤ more ∧ more < 256 := by
    have h := h3
    simp only [wfI, Lit.wf, IntKind.min, IntKind.max, IntKind.signed, IntKind.bits] at h
    have h2 : 0 ≤ more ∧ more ≤ 255 := by simpa using h
    omega
  unfold wherrylaw16_ReportBack
  refine bnd (wadd16 (by omega)) (bnd (wadd16 (by omega)) (bnd (wadd16 (by omega)) (bnd (wadd16 (by omega)) ?_)))
  by_cases hbig : 2000 < site.size + sender.Local.size + sender.Domain.size + rcpt.Local.size + rcpt.Domain.size
  · exact cnd_t (decide_eq_true (by omega)) rfl
  refine cnd_f (decide_eq_false (by omega)) ?_
  have hs : Sm sender := ⟨by omega, by omega⟩
  have hp : Sm rcpt := ⟨by omega, by omega⟩
  refine bnd (build_eq site sender rcpt (by omega) hs hp) ?_
  cases hg : rg site sender rcpt
  · rw [if_neg (by simp)]
    exact cnd_t rfl (bndL (s := true) (cnd_t rfl (cnd_t rfl (bnd wakes16 rfl))) rfl)
  rw [if_pos rfl]
  obtain ⟨hc, hb⟩ := rep_all hg
  have hsh := rep_short hg
  have htx := rg_txt hg
  have hst := (rg_sm hg).1
  have htot : tot (repL (sbytes site) (txtL sender) (txtL rcpt)) ≤ 2200 := by
    have e : (repOf (site, sender, rcpt)).length = tot (repL (sbytes site) (txtL sender) (txtL rcpt)) := jn_len _
    omega
  have htb := jn_byt hb
  obtain ⟨X, hX⟩ := rep_end (site, sender, rcpt)
  have hX' : jn (repL (sbytes site) (txtL sender) (txtL rcpt)) = X ++ [13, 10] := hX
  have hXl : X.length + 2 ≤ 2200 := by rw [hX] at hsh; simpa using hsh
  have h4 := rep_scan (Q := txtL rcpt) (byt_sbytes site) (byt_txt sender) (by rw [sbytes_len]; omega) (by omega)
  refine cnd_f rfl (bnd (read_yes hg (by omega)) (bnd (scan_eq hc hb (by omega)) (bndL (s := false) ?_ (cnd_f rfl ?_))))
  · refine cnd_f rfl (cnd_f rfl (cnd_f (by rw [str_self]; rfl) (bnd (keepP_self sender) (cnd_f rfl (bnd (keepP_self rcpt) (cnd_f rfl (cnd_f ?_ (cnd_f ?_ (bnd (check_ok hc hb (by omega)) rfl)))))))))
    · dsimp only
      rw [h4]; rfl
    · dsimp only
      rw [hX']
      simp
      omega
  · have hl1 : IntKind.i64.wrap (((jn (repL (sbytes site) (txtL sender) (txtL rcpt))).length : Int) - 1) = ((X.length + 1 : Nat) : Int) := by
      rw [hX', wrap_i64 (by simp; omega) (by simp; omega)]
      simp
      omega
    have hs1 := sli_nat (jn (repL (sbytes site) (txtL sender) (txtL rcpt))) (a := 0) (b := X.length + 1) (by omega) (by rw [hX']; simp)
    rw [List.drop_zero, Nat.sub_zero] at hs1
    have htk : (jn (repL (sbytes site) (txtL sender) (txtL rcpt))).take (X.length + 1) = X ++ [13] := by
      rw [hX', List.take_append, List.take_of_length_le (Nat.le_succ _)]
      simp
    rw [htk] at hs1
    have hXb : byt X ∧ byt [13, 10] := by
      rw [hX'] at htb
      exact ⟨fun x hx => htb x (List.mem_append_left _ hx), fun x hx => htb x (List.mem_append_right _ hx)⟩
    have no1 : report_Read (X ++ [13]) = some (e0, noP, noP, 5) := read_no (byt_app hXb.1 (byt1 (by decide))) (by simp; omega) (fun a b c _ he => by
      obtain ⟨Y, hY⟩ := rep_end (a, b, c)
      rw [hY] at he
      have := congrArg List.getLast? he
      simp at this)
    have no2 : report_Read (jn (repL (sbytes site) (txtL sender) (txtL rcpt)) ++ [more]) = some (e0, noP, noP, 5) := read_no (byt_app htb (byt1 hm)) (by rw [List.length_append, jn_len]; simp; omega) (fun a b c _ he => by
      obtain ⟨Y, hY⟩ := rep_end (a, b, c)
      rw [hY, hX', show Y ++ [13, 10] = (Y ++ [13]) ++ [10] from by simp] at he
      have h5 := (List.append_inj' he rfl).1
      have := congrArg List.getLast? h5
      simp at this)
    refine bnd (congrArg some hl1) (bnd hs1 (bnd no1 (bnd (twin15 _ (by dsimp only; rw [jn_len]; omega)) (bnd (app_of (by dsimp only; rw [jn_len]; simp; omega) (by dsimp only; rw [jn_len]; simp; omega)) (bnd no2 (bndL (s := true) ?_ rfl))))))
    exact cnd_t rfl (cnd_t rfl (bnd wakes16 rfl))
end Go.Abs.Sh
