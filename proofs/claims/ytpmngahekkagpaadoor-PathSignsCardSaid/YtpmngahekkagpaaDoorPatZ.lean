import Derived.Test.YtpmngahekkagpaaDoorPatY
namespace Go.Abs.Sh
set_option linter.unusedVariables false
set_option linter.unusedSimpArgs false

theorem u64_two (z : Int) : ∃ q : Nat, q < 2 ∧ remO (IntKind.u64.wrap z) 2 = some (q : Int) := by
  have h0 : 0 ≤ IntKind.u64.wrap z := by
    simp only [IntKind.wrap, IntKind.bits, IntKind.signed]
    have e : (2 : Int) ^ 64 = 18446744073709551616 := by decide
    simp only [e, Bool.false_and, Bool.false_eq_true, if_false]
    omega
  obtain ⟨n, hn⟩ : ∃ n : Nat, IntKind.u64.wrap z = (n : Int) := ⟨(IntKind.u64.wrap z).toNat, by omega⟩
  rw [hn]
  exact ⟨n % 2, by omega, rem_nat n 2 (by omega)⟩
def rep (n : Nat) (c : Int) : List Int := List.replicate n c
theorem byt_rep {n : Nat} {c : Int} (hc : 0 ≤ c ∧ c < 256) : byt (rep n c) := fun x hx => by rw [(List.mem_replicate.1 hx).2]; exact hc
theorem checkC {p : T_Path} {l d : List Int} (hn : p.Null = false) (hl : sbytes p.Local = l) (hd : sbytes p.Domain = d) (h1 : l.length ≤ 5000) (h2 : d.length ≤ 5000) : path_Check p = some (cond (locB l && domB d) 0 5) := by
  have hp : Small p := ⟨by rw [size_sb, hl]; omega, by rw [size_sb, hd]; omega⟩
  have := check_eq p hp
  unfold patB at this
  rw [hn, cond_false, hl, hd] at this
  exact this
def longL (c : Int) : List Int := rep 63 c ++ 46 :: (rep 63 c ++ 46 :: (rep 63 c ++ 46 :: rep 63 c))
theorem long_all : (List.range 26).all (fun k => (List.range 2).all fun o => ((locB (rep 64 (97 + (k : Int)) ++ rep o (97 + (k : Int))) && domB [120]) == (o == 0)) && ((domB (rep (63 + o) (97 + (k : Int))) == (o == 0)) && (domB ((longL (97 + (k : Int))).take 254 ++ rep (1 + o) (97 + (k : Int))) == (o == 0)))) = true := by kernel_rfl
theorem subL {s : ByteArray} {l : List Int} (hs : sbytes s = l) {a b : Nat} (h1 : a ≤ b) (h2 : b ≤ l.length) : subO s (a : Int) (b : Int) = some (bstr ((l.drop a).take (b - a))) := by
  subst hs
  rw [sbytes_len] at h2
  exact sub_of h1 h2
theorem subL0 {s : ByteArray} {l : List Int} (hs : sbytes s = l) {b : Nat} (h2 : b ≤ l.length) : subO s 0 (b : Int) = some (bstr (l.take b)) := by
  have := subL hs (Nat.zero_le b) h2
  simpa using this
theorem rep_take {n m : Nat} {c : Int} (h : m ≤ n) : (rep n c).take m = rep m c := by
  unfold rep; rw [List.take_replicate]; congr 1; omega

theorem pathLong_true (over c : Int) (hc : wfI .u8 c) : wherrylaw11_PathLong over c = some true := by
  have hc := u8_of hc
  unfold wherrylaw11_PathLong
  obtain ⟨o, ho, hrem⟩ := u64_two over
  obtain ⟨k, hk, hsel⟩ : ∃ k : Nat, k < 26 ∧ (bindS (S := Bool) (A := (Int ⊕ Bool))
      (cond ((decide (c < 97)))
        (some (.inl true))
        (some (.inl ((decide (122 < c))))))
      (fun (s13 : Bool) =>
        cond (s13)
          (some (.inl 97))
          (some (.inl c))) some) = some (.inl (97 + (k : Int))) := by
    by_cases h1 : c < 97
    · exact ⟨0, by omega, bndL (s := true) (cnd_t (decide_eq_true h1) rfl) rfl⟩
    · by_cases h2 : 122 < c
      · exact ⟨0, by omega, bndL (s := true) (cnd_f (decide_eq_false h1) (by rw [decide_eq_true h2])) rfl⟩
      · exact ⟨(c - 97).toNat, by omega, bndL (s := false) (cnd_f (decide_eq_false h1) (by rw [decide_eq_false h2])) (cnd_f rfl (by congr 2; omega))⟩
  have hcase := List.all_eq_true.1 (List.all_eq_true.1 long_all k (List.mem_range.2 hk)) o (List.mem_range.2 ho)
  obtain ⟨x, hx⟩ : ∃ x, x = 97 + (k : Int) := ⟨_, rfl⟩
  rw [← hx] at hsel hcase
  simp only [Bool.and_eq_true, beq_iff_eq] at hcase
  obtain ⟨h1, h2, h3⟩ := hcase
  have bx : 0 ≤ x ∧ x < 256 := by omega
  have b1 : byt [x] := byt_cons bx byt_nil
  refine bnd rfl (bnd hrem (bnd (wrap_i (by omega) (by omega)) (bndL hsel (bndL (s := bstr (rep 64 x)) ?_ ?_))))
  · refine loop_from (fun i => bstr (rep i x)) 64 BIG rfl (by unfold BIG; omega) (fun i hi => ?_) (cnd_f (by rw [bstr_size]; simp [rep]) rfl)
    refine cnd_t (by rw [bstr_size]; simp [rep]; omega) (bnd rfl (bnd (catL (sbytes_bstr (byt_rep bx)) (sbytes_bstr b1) (by simp [rep]; omega)) ?_))
    congr 3
    unfold rep
    rw [← List.replicate_succ']
  have S := sbytes_bstr (byt_rep (n := 64) bx)
  have L64 : (rep 64 x).length = 64 := by simp [rep]
  have b46 : byt [46] := byt_cons (by omega) byt_nil
  have r := fun n => byt_rep (n := n) bx
  have sO := subL0 S (b := o) (by omega)
  rw [rep_take (by omega)] at sO
  have s63o := subL0 S (b := 63 + o) (by omega)
  rw [rep_take (by omega)] at s63o
  have s63 := subL0 S (b := 63) (by omega)
  rw [rep_take (by omega)] at s63
  have s1o := subL0 S (b := 1 + o) (by omega)
  rw [rep_take (by omega)] at s1o
  have k1 := catL S (sbytes_bstr (r o)) (by simp only [rep, List.length_append, List.length_replicate]; omega)
  have d : sbytes (⟨#[46]⟩ : ByteArray) = [46] := rfl
  have R := sbytes_bstr (r 63)
  have m1 := catL R d (by simp only [rep, List.length_append, List.length_replicate, List.length_cons, List.length_nil]; omega)
  have m2 := catL (sbytes_bstr (byt_app (r 63) b46)) R (by simp only [rep, List.length_append, List.length_replicate, List.length_cons, List.length_nil]; omega)
  have m3 := catL (sbytes_bstr (byt_app (byt_app (r 63) b46) (r 63))) d (by simp only [rep, List.length_append, List.length_replicate, List.length_cons, List.length_nil]; omega)
  have m4 := catL (sbytes_bstr (byt_app (byt_app (byt_app (r 63) b46) (r 63)) b46)) R (by simp only [rep, List.length_append, List.length_replicate, List.length_cons, List.length_nil]; omega)
  have m5 := catL (sbytes_bstr (byt_app (byt_app (byt_app (byt_app (r 63) b46) (r 63)) b46) (r 63))) d (by simp only [rep, List.length_append, List.length_replicate, List.length_cons, List.length_nil]; omega)
  have m6 := catL (sbytes_bstr (byt_app (byt_app (byt_app (byt_app (byt_app (r 63) b46) (r 63)) b46) (r 63)) b46)) R (by simp only [rep, List.length_append, List.length_replicate, List.length_cons, List.length_nil]; omega)
  have eL : rep 63 x ++ [46] ++ rep 63 x ++ [46] ++ rep 63 x ++ [46] ++ rep 63 x = longL x := by unfold longL; simp
  rw [eL] at m6
  have bL : byt (longL x) := eL ▸ byt_app (byt_app (byt_app (byt_app (byt_app (byt_app (r 63) b46) (r 63)) b46) (r 63)) b46) (r 63)
  have lenL : (longL x).length = 255 := by simp only [longL, rep, List.length_append, List.length_replicate, List.length_cons]
  have s254 := subL0 (sbytes_bstr bL) (b := 254) (by omega)
  have m7 := catL (sbytes_bstr (byt_take bL 254)) (sbytes_bstr (r (1 + o))) (by simp only [rep, List.length_append, List.length_replicate, List.length_cons, List.length_nil, List.length_take, lenL]; omega)
  have ck := checkC (p := T_Path.mk false (bstr (rep 64 x ++ rep o x)) (⟨#[120]⟩ : ByteArray)) rfl (sbytes_bstr (byt_app (r 64) (r o))) (show sbytes (⟨#[120]⟩ : ByteArray) = [120] from rfl) (by simp only [rep, List.length_append, List.length_replicate]; omega) (by simp)
  rw [h1] at ck
  have dk := domC (sbytes_bstr (r (63 + o))) (by simp only [rep, List.length_append, List.length_replicate]; omega)
  rw [h2] at dk
  have ek := domC (sbytes_bstr (byt_app (byt_take bL 254) (r (1 + o)))) (by simp only [rep, List.length_append, List.length_replicate, List.length_take, lenL]; omega)
  rw [h3] at ek
  have w63 : some (IntKind.i64.wrap (63 + (o : Int))) = some ((63 + o : Nat) : Int) := by rw [wrap_i (by omega) (by omega)]; simp
  have w1 : some (IntKind.i64.wrap (1 + (o : Int))) = some ((1 + o : Nat) : Int) := by rw [wrap_i (by omega) (by omega)]; simp
  refine bnd sO (bnd k1 (bnd ck (bnd w63 (bnd s63o (bnd dk (bnd s63 (bnd m1 (bnd s63 (bnd m2 (bnd m3 (bnd s63 (bnd m4 (bnd m5 (bnd s63 (bnd m6 (bnd s254 (bnd w1 (bnd s1o (bnd m7 (bnd ek ?_))))))))))))))))))))
  have ho2 : o = 0 ∨ o = 1 := by omega
  rcases ho2 with rfl | rfl
  · exact bndL (s := (0 : Int)) rfl (bndL (s := true) (cnd_t rfl (bnd rfl (cnd_t rfl (bnd rfl (cnd_t rfl (bnd wakes11 rfl)))))) rfl)
  · exact bndL (s := (5 : Int)) rfl (bndL (s := true) (cnd_t rfl (bnd rfl (cnd_t rfl (bnd rfl (cnd_t rfl (bnd wakes11 rfl)))))) rfl)

theorem par_none1 {l : List Int} (h : l.head? ≠ some 60) : parL l = none := by
  unfold parL
  rw [if_neg (by rintro rfl; simp at h)]
  have : midL l = none := by unfold midL; rw [if_neg fun e => h e.1]
  rw [this]
theorem par_none2 {l : List Int} (h : l.getLast? ≠ some 62) : parL l = none := by
  unfold parL
  rw [if_neg (by rintro rfl; simp at h)]
  have : midL l = none := by unfold midL; rw [if_neg fun e => h e.2.2]
  rw [this]
theorem par_none3 {m : List Int} (hm : m ≠ []) (h : ∀ p, boxL m = some p → patB p = false) : parL (60 :: (m ++ [62])) = none := by
  unfold parL
  rw [if_neg (by
    intro e
    have := congrArg List.length e
    simp at this
    exact hm this), midL_mk]
  cases hb : boxL m with
  | none => simp only [hb]
  | some p => simp only [hb, h p hb, Bool.false_eq_true, if_false]
theorem parseN {s : ByteArray} {l : List Int} (hs : sbytes s = l) (hl : l.length ≤ 5000) (h : parL l = none) : path_Parse s = some (noP, 5) := by
  subst hs
  rw [sbytes_len] at hl
  have := parse_eq s (by omega)
  rw [h] at this
  exact this
theorem box_app {a b : List Int} (ha : (64 : Int) ∉ a) : boxL (a ++ 64 :: b) = some ⟨false, bstr a, bstr b⟩ := by
  unfold boxL
  rw [idx1_app ha]
  have e2 : (a ++ 64 :: b).drop (a.length + 1) = b := by rw [← List.drop_drop]; simp
  simp only [List.take_left', e2]

theorem pathSigns_true (c : Int) (p : T_Path) (hc : wfI .u8 c) (hp : T_Path.wz p) : wherrylaw11_PathSigns c p = some true := by
  have hc := u8_of hc
  have l1 := reach47 hp.2.1; have l2 := reach47 hp.2.2
  unfold wherrylaw11_PathSigns
  have hw : some (IntKind.i64.wrap ((p.Local.size : Int) + (p.Domain.size : Int))) = some ((p.Local.size : Int) + (p.Domain.size : Int)) := wrap_i (by omega) (by omega)
  by_cases hbig : 300 < (p.Local.size : Int) + (p.Domain.size : Int)
  · exact bndL (s := true) (bnd hw (cnd_t (decide_eq_true hbig) rfl)) rfl
  have hrp := rpath_eq p
  cases hpb : patB p
  · rw [hpb] at hrp
    exact bndL (s := true) (bnd hw (cnd_f (decide_eq_false hbig) (bnd hrp rfl))) rfl
  rw [hpb] at hrp
  cases hn : p.Null
  case true => exact bndL (s := true) (bnd hw (cnd_f (decide_eq_false hbig) (bnd hrp (cnd_f rfl rfl)))) rfl
  refine bndL (s := false) (bnd hw (cnd_f (decide_eq_false hbig) (bnd hrp (cnd_f rfl rfl)))) (cnd_f rfl ?_)
  have sp : Small p := ⟨by omega, by omega⟩
  have hpb2 := hpb
  unfold patB at hpb2
  rw [hn] at hpb2
  simp only [cond_false, Bool.and_eq_true] at hpb2
  obtain ⟨hl, hd⟩ := hpb2
  have b1 : ∀ {x : Int}, 0 ≤ x ∧ x < 256 → byt [x] := fun h => byt_cons h byt_nil
  have q1 := catL (s := ⟨#[97]⟩) (t := bstr [c]) (show sbytes ⟨#[97]⟩ = [97] from rfl) (sbytes_bstr (b1 hc)) (by simp)
  have q2 := catL (s := bstr ([97] ++ [c])) (t := ⟨#[98]⟩) (sbytes_bstr (byt_app (b1 (by omega)) (b1 hc))) (show sbytes ⟨#[98]⟩ = [98] from rfl) (by simp)
  obtain ⟨Q, hQ⟩ : ∃ Q, Q = T_Path.mk false (bstr ([97] ++ [c] ++ [98])) (⟨#[120]⟩ : ByteArray) := ⟨_, rfl⟩
  have sQ : Small Q := by rw [hQ]; exact ⟨by simp [bstr_size], by show 1 < _; omega⟩
  have ckQ := check_eq Q sQ
  have rpQ := rpath_eq Q
  rw [hQ] at ckQ rpQ
  refine bnd rfl (bnd q1 (bnd q2 (bnd ckQ (bnd rpQ (bnd rfl (cnd_f ?_ ?_))))))
  · cases patB (T_Path.mk false (bstr ([97] ++ [c] ++ [98])) (⟨#[120]⟩ : ByteArray)) <;> rfl
  have ht := rtext_eq p sp
  obtain ⟨L, hL⟩ : ∃ L, L = sbytes p.Local := ⟨_, rfl⟩
  obtain ⟨D, hD⟩ : ∃ D, D = sbytes p.Domain := ⟨_, rfl⟩
  have eT : txtL p = 60 :: (L ++ 64 :: (D ++ [62])) := by unfold txtL; rw [hn, hL, hD]; rfl
  have bT := byt_txt p
  rw [eT] at ht bT
  rw [← hL] at hl
  rw [← hD] at hd
  have bL : byt L := hL ▸ byt_sbytes _
  have bD : byt D := hD ▸ byt_sbytes _
  have nL : L ≠ [] := by intro e; rw [e] at hl; exact absurd hl (by decide)
  have nD : D ≠ [] := by intro e; rw [e] at hd; exact absurd hd (by decide)
  have lenL : L.length = p.Local.size := by rw [hL, sbytes_len]
  have lenD : D.length = p.Domain.size := by rw [hD, sbytes_len]
  have lL : L.length ≤ 300 := by omega
  have lD : D.length ≤ 300 := by omega
  have L64 : (64 : Int) ∉ L := loc_no (by decide) hl
  have L60 : (60 : Int) ∉ L := loc_no (by decide) hl
  have D62 : (62 : Int) ∉ D := dom_no (by decide) hd
  have D64 : (64 : Int) ∉ D := dom_no (by decide) hd
  have S := sbytes_bstr bT
  have len : (60 :: (L ++ 64 :: (D ++ [62])) : List Int).length = L.length + D.length + 3 := by simp; omega
  have z : (bstr (60 :: (L ++ 64 :: (D ++ [62])))).size = L.length + D.length + 3 := by rw [bstr_size, len]
  -- the texts
  have t1 := subL S (a := 1) (b := L.length + D.length + 3) (by omega) (by omega)
  have e1 : ((60 :: (L ++ 64 :: (D ++ [62])) : List Int).drop 1).take (L.length + D.length + 3 - 1) = L ++ 64 :: (D ++ [62]) := by
    rw [List.drop_succ_cons, List.drop_zero, List.take_of_length_le (by simp; omega)]
  rw [e1] at t1
  have t2 := subL0 S (b := L.length + D.length + 2) (by omega)
  have e2 : (60 :: (L ++ 64 :: (D ++ [62])) : List Int).take (L.length + D.length + 2) = 60 :: (L ++ 64 :: D) := by
    have : (60 :: (L ++ 64 :: (D ++ [62])) : List Int) = (60 :: (L ++ 64 :: D)) ++ [62] := by simp
    rw [this, List.take_append_of_le_length (by simp; omega), List.take_of_length_le (by simp; omega)]
  rw [e2] at t2
  have s60 : sbytes (⟨#[60]⟩ : ByteArray) = [60] := rfl
  have s62 : sbytes (⟨#[62]⟩ : ByteArray) = [62] := rfl
  have s32 : sbytes (⟨#[32]⟩ : ByteArray) = [32] := rfl
  have t3 := catL s60 S (by rw [len]; simp; omega)
  have t4 := catL S s62 (by rw [len]; simp; omega)
  have t5 := catL s32 S (by rw [len]; simp; omega)
  have y60 : byt [60] := b1 (by omega)
  have y62 : byt [62] := b1 (by omega)
  have y32 : byt [32] := b1 (by omega)
  have y64 : byt [64, 64] := byt_cons (by omega) (b1 (by omega))
  have y6064 : byt [60, 64] := byt_cons (by omega) (b1 (by omega))
  have y6462 : byt [64, 62] := byt_cons (by omega) (b1 (by omega))
  have t6 := catL s60 hL.symm (by simp; omega)
  have t7 := catL (sbytes_bstr (byt_app y60 bL)) hD.symm (by simp; omega)
  have t8 := catL (sbytes_bstr (byt_app (byt_app y60 bL) bD)) s62 (by simp; omega)
  have t9 := catL (sbytes_bstr (byt_app y60 bL)) (show sbytes (⟨#[64, 64]⟩ : ByteArray) = [64, 64] from rfl) (by simp; omega)
  have t10 := catL (sbytes_bstr (byt_app (byt_app y60 bL) y64)) hD.symm (by simp; omega)
  have t11 := catL (sbytes_bstr (byt_app (byt_app (byt_app y60 bL) y64) bD)) s62 (by simp; omega)
  have t12 := catL (show sbytes (⟨#[60, 64]⟩ : ByteArray) = [60, 64] from rfl) hD.symm (by simp; omega)
  have t13 := catL (sbytes_bstr (byt_app y6064 bD)) s62 (by simp; omega)
  have t14 := catL (sbytes_bstr (byt_app y60 bL)) (show sbytes (⟨#[64, 62]⟩ : ByteArray) = [64, 62] from rfl) (by simp; omega)
  have w1 : some (IntKind.i64.wrap (((bstr (60 :: (L ++ 64 :: (D ++ [62])))).size : Int) - 1)) = some ((L.length + D.length + 2 : Nat) : Int) := by rw [z, wrap_i (by omega) (by omega)]; congr 1; omega
  have t1' : subO (bstr (60 :: (L ++ 64 :: (D ++ [62])))) 1 ((bstr (60 :: (L ++ 64 :: (D ++ [62])))).size : Int) = some (bstr (L ++ 64 :: (D ++ [62]))) := by rw [z]; exact t1
  -- none is read
  have p1 : path_Parse (bstr (L ++ 64 :: (D ++ [62]))) = some (noP, 5) := parseN (sbytes_bstr (byt_app bL (byt_cons (by omega) (byt_app bD y62)))) (by simp; omega) (par_none1 (by
    cases L with
    | nil => exact absurd rfl nL
    | cons x r => simp at L60 ⊢; intro e; exact L60.1 e.symm))
  have p2 : path_Parse (bstr (60 :: (L ++ 64 :: D))) = some (noP, 5) := parseN (sbytes_bstr (byt_cons (by omega) (byt_app bL (byt_cons (by omega) bD)))) (by simp; omega) (par_none2 (by
    intro e
    have : (60 :: (L ++ 64 :: D) : List Int) = (60 :: (L ++ [64])) ++ D := by simp
    rw [this, List.getLast?_append, List.getLast?_eq_some_getLast nD] at e
    simp only [Option.some_or, Option.some.injEq] at e
    exact D62 (e ▸ List.getLast_mem nD)))
  have p3 : path_Parse (bstr ([60] ++ 60 :: (L ++ 64 :: (D ++ [62])))) = some (noP, 5) := by
    refine parseN (sbytes_bstr (byt_app y60 bT)) (by simp; omega) ?_
    have : ([60] ++ 60 :: (L ++ 64 :: (D ++ [62])) : List Int) = 60 :: (((60 :: L) ++ 64 :: D) ++ [62]) := by simp
    rw [this]
    refine par_none3 (by simp) fun p hp => ?_
    rw [box_app (by simp [L64])] at hp
    cases hp
    unfold patB
    simp only [cond_false]
    rw [sbytes_bstr (byt_cons (by omega) bL)]
    cases h : locB (60 :: L)
    · rfl
    · exact absurd (by simp) (loc_no (c := 60) (by decide) h)
  have p4 : path_Parse (bstr (60 :: (L ++ 64 :: (D ++ [62])) ++ [62])) = some (noP, 5) := by
    refine parseN (sbytes_bstr (byt_app bT y62)) (by simp; omega) ?_
    have : (60 :: (L ++ 64 :: (D ++ [62])) ++ [62] : List Int) = 60 :: ((L ++ 64 :: (D ++ [62])) ++ [62]) := by simp
    rw [this]
    refine par_none3 (by simp) fun p hp => ?_
    rw [box_app L64] at hp
    cases hp
    unfold patB
    simp only [cond_false]
    rw [sbytes_bstr (byt_app bD y62)]
    cases h : domB (D ++ [62])
    · rw [Bool.and_false]
    · exact absurd (by simp) (dom_no (c := 62) (by decide) h)
  have p5 : path_Parse (bstr ([32] ++ 60 :: (L ++ 64 :: (D ++ [62])))) = some (noP, 5) := parseN (sbytes_bstr (byt_app y32 bT)) (by simp; omega) (par_none1 (by simp))
  have p6 : path_Parse (bstr ([60] ++ L ++ D ++ [62])) = some (noP, 5) := by
    refine parseN (sbytes_bstr (byt_app (byt_app (byt_app y60 bL) bD) y62)) (by simp; omega) ?_
    have : ([60] ++ L ++ D ++ [62] : List Int) = 60 :: ((L ++ D) ++ [62]) := by simp
    rw [this]
    refine par_none3 (by simp [nL]) fun p hp => ?_
    unfold boxL at hp
    rw [idx1_none.2 (by simp [L64, D64])] at hp
    cases hp
  have p7 : path_Parse (bstr ([60] ++ L ++ [64, 64] ++ D ++ [62])) = some (noP, 5) := by
    refine parseN (sbytes_bstr (byt_app (byt_app (byt_app (byt_app y60 bL) y64) bD) y62)) (by simp; omega) ?_
    have : ([60] ++ L ++ [64, 64] ++ D ++ [62] : List Int) = 60 :: ((L ++ 64 :: (64 :: D)) ++ [62]) := by simp
    rw [this]
    refine par_none3 (by simp) fun p hp => ?_
    rw [box_app L64] at hp
    cases hp
    unfold patB
    simp only [cond_false]
    rw [sbytes_bstr (byt_cons (by omega) bD)]
    cases h : domB (64 :: D)
    · rw [Bool.and_false]
    · exact absurd (by simp) (dom_no (c := 64) (by decide) h)
  have p8 : path_Parse (bstr ([60, 64] ++ D ++ [62])) = some (noP, 5) := by
    refine parseN (sbytes_bstr (byt_app (byt_app y6064 bD) y62)) (by simp; omega) ?_
    have : ([60, 64] ++ D ++ [62] : List Int) = 60 :: (([] ++ 64 :: D) ++ [62]) := by simp
    rw [this]
    refine par_none3 (by simp) fun p hp => ?_
    rw [box_app (by simp)] at hp
    cases hp
    rfl
  have p9 : path_Parse (bstr ([60] ++ L ++ [64, 62])) = some (noP, 5) := by
    refine parseN (sbytes_bstr (byt_app (byt_app y60 bL) y6462)) (by simp; omega) ?_
    have : ([60] ++ L ++ [64, 62] : List Int) = 60 :: ((L ++ 64 :: []) ++ [62]) := by simp
    rw [this]
    refine par_none3 (by simp) fun p hp => ?_
    rw [box_app L64] at hp
    cases hp
    unfold patB
    simp only [cond_false]
    rw [show domB (sbytes (bstr [])) = false from rfl, Bool.and_false]
  refine bnd ht (bnd t1' (bnd w1 (bnd t2 (bnd t3 (bnd t4 (bnd t5 (bnd t6 (bnd t7 (bnd t8 (bnd t6 (bnd t9 (bnd t10 (bnd t11 (bnd t12 (bnd t13 (bnd t6 (bnd t14 (bndL (s := ()) ?_ (bnd wakes11 rfl)))))))))))))))))))
  obtain ⟨bad, hbad⟩ : ∃ bad, bad = [bstr (L ++ 64 :: (D ++ [62])), bstr (60 :: (L ++ 64 :: D)), bstr ([60] ++ 60 :: (L ++ 64 :: (D ++ [62]))), bstr (60 :: (L ++ 64 :: (D ++ [62])) ++ [62]), bstr ([32] ++ 60 :: (L ++ 64 :: (D ++ [62]))), bstr ([60] ++ L ++ D ++ [62]), bstr ([60] ++ L ++ [64, 64] ++ D ++ [62]), bstr ([60, 64] ++ D ++ [62]), bstr ([60] ++ L ++ [64, 62])] := ⟨_, rfl⟩
  have hall : ∀ x ∈ bad, path_Parse x = some (noP, 5) := by
    rw [hbad]
    simp only [List.mem_cons, List.not_mem_nil, or_false]
    rintro x (rfl | rfl | rfl | rfl | rfl | rfl | rfl | rfl | rfl) <;> assumption
  have h9 : bad.length = 9 := by rw [hbad]; rfl
  rw [← hbad]
  refine loop_from (fun i => (i : Int)) 9 BIG rfl (by unfold BIG; omega) (fun i hi => ?_) (cnd_f (decide_eq_false (by omega)) rfl)
  have hg := getO_of (l := bad) (i := i) (by omega)
  have hm := hall _ (List.getElem_mem (show i < bad.length by omega))
  refine cnd_t (decide_eq_true (by omega)) (bnd (ixO_of (by omega)) (bnd hg (bnd hm (bndL (s := false) (cnd_f rfl (bnd (keepPath noP noP) (by rw [decide_eq_true rfl]; rfl))) (cnd_f rfl (bnd (by rw [wrap_succ (by omega)]) rfl))))))
end Go.Abs.Sh
