import Derived.Test.YthfmdofkkkpbkaaGreatDoorPatC
namespace Go.Abs.Sh
set_option linter.unusedVariables false
set_option linter.unusedSimpArgs false
def lowB (c : Int) : Int := if 65 ≤ c ∧ c ≤ 90 then c + 32 else c
def lowL (l : List Int) : List Int := l.map lowB
def lowS (s : ByteArray) : ByteArray := bstr (lowL (sbytes s))
theorem low_byte {c : Int} (h : 0 ≤ c ∧ c < 256) : 0 ≤ lowB c ∧ lowB c < 256 := by unfold lowB; split <;> omega
theorem byt_low {l : List Int} (h : byt l) : byt (lowL l) := by
  intro x hx
  simp only [lowL, List.mem_map] at hx
  obtain ⟨y, hy, rfl⟩ := hx
  exact low_byte (h y hy)
theorem sbytes_low (s : ByteArray) : sbytes (lowS s) = lowL (sbytes s) := sbytes_bstr (byt_low (byt_sbytes s))
theorem low_size (s : ByteArray) : (lowS s).size = s.size := by unfold lowS; rw [bstr_size]; simp [lowL, sbytes_len]
theorem set_mid {A : Type} (f : A → A) (l : List A) (i : Nat) (h : i < l.length) : ((l.take i).map f ++ l.drop i).set i (f l[i]) = (l.take (i + 1)).map f ++ l.drop (i + 1) := by
  rw [List.set_append_right _ _ (by simp; omega)]
  have hl : ((l.take i).map f).length = i := by simp; omega
  rw [hl, Nat.sub_self, List.drop_eq_getElem_cons h, List.set_cons_zero, List.take_add_one, List.getElem?_eq_getElem h]
  simp only [Option.toList_some, List.map_append, List.map_cons, List.map_nil, List.append_assoc, List.cons_append, List.nil_append]
theorem get_mid {A : Type} (f : A → A) (l : List A) (i : Nat) (h : i < l.length) : getO ((l.take i).map f ++ l.drop i) i = some l[i] := by
  unfold getO
  rw [List.getElem?_append_right (by simp; omega)]
  have hl : ((l.take i).map f).length = i := by simp; omega
  rw [hl, Nat.sub_self, List.drop_eq_getElem_cons h]
  rfl
theorem fold_eq (s : ByteArray) (hs : s.size < 4611686018427387904) : path_Fold s = some (lowS s) := by
  unfold path_Fold
  refine bnd rfl ?_
  have hlen : (sbytes s).length = s.size := sbytes_len s
  refine bndL (s := lowL (sbytes s)) ?_ rfl
  refine loop_from (fun i => (((sbytes s).take i).map lowB ++ (sbytes s).drop i, (i : Int))) s.size BIG (by simp) (by unfold BIG; omega) (fun i hi => ?_) ?_
  · have hi' : i < (sbytes s).length := by omega
    have hb := byt_sbytes s _ (List.getElem_mem hi')
    have hll : (((sbytes s).take i).map lowB ++ (sbytes s).drop i).length = (sbytes s).length := by simp; omega
    have gt := get_mid lowB (sbytes s) i hi'
    have st := set_mid lowB (sbytes s) i hi'
    have ix : ixO (i : Int) (((sbytes s).take i).map lowB ++ (sbytes s).drop i).length = some i := ixO_of (by omega)
    have w : some (IntKind.i64.wrap ((i : Int) + 1)) = some ((i + 1 : Nat) : Int) := by rw [wrap_succ (by omega)]
    refine cnd_t (decide_eq_true (by omega)) ?_
    by_cases h1 : 65 ≤ (sbytes s)[i] ∧ (sbytes s)[i] ≤ 90
    · have e : lowB (sbytes s)[i] = (sbytes s)[i] + 32 := by unfold lowB; rw [if_pos h1]
      rw [e] at st
      refine bndL (s := ((sbytes s).take (i + 1)).map lowB ++ (sbytes s).drop (i + 1)) (bnd ix (bnd gt (bndL (s := true) (cnd_t (decide_eq_true h1.1) (by rw [decide_eq_true h1.2])) (cnd_t rfl (bnd (by rw [u8_wrap (by omega) (by omega)]) (bnd ix (bnd (by rw [st]) rfl))))))) (bnd w rfl)
    · have e : lowB (sbytes s)[i] = (sbytes s)[i] := by unfold lowB; rw [if_neg h1]
      have st2 : ((sbytes s).take i).map lowB ++ (sbytes s).drop i = ((sbytes s).take (i + 1)).map lowB ++ (sbytes s).drop (i + 1) := by
        rw [List.take_add_one, List.getElem?_eq_getElem hi', List.drop_eq_getElem_cons hi']
        simp only [Option.toList_some, List.map_append, List.map_cons, List.map_nil, List.append_assoc, List.cons_append, List.nil_append, e]
      refine bndL (s := ((sbytes s).take (i + 1)).map lowB ++ (sbytes s).drop (i + 1)) (bnd ix (bnd gt (bndL (s := false) ?_ (cnd_f rfl (by rw [st2]))))) (bnd w rfl)
      by_cases h2 : 65 ≤ (sbytes s)[i]
      · exact cnd_t (decide_eq_true h2) (by rw [decide_eq_false fun h3 => h1 ⟨h2, h3⟩])
      · exact cnd_f (decide_eq_false h2) rfl
  · refine cnd_f (decide_eq_false (by omega)) ?_
    rw [← hlen]
    simp [lowL]
def txtL (p : T_Path) : List Int := cond p.Null [60, 62] (60 :: (sbytes p.Local ++ 64 :: (sbytes p.Domain ++ [62])))
theorem byt_cons {c : Int} {l : List Int} (h : 0 ≤ c ∧ c < 256) (hl : byt l) : byt (c :: l) := by
  intro x hx
  simp only [List.mem_cons] at hx
  rcases hx with rfl | hx
  · exact h
  · exact hl x hx
theorem byt_nil : byt [] := fun x hx => by cases hx
theorem byt_txt (p : T_Path) : byt (txtL p) := by
  unfold txtL
  cases p.Null
  · exact byt_cons (by omega) (byt_app (byt_sbytes _) (byt_cons (by omega) (byt_app (byt_sbytes _) (byt_cons (by omega) byt_nil))))
  · exact byt_cons (by omega) (byt_cons (by omega) byt_nil)
theorem catL {s t : ByteArray} {l m : List Int} (hl : sbytes s = l) (hm : sbytes t = m) (h : l.length + m.length ≤ 9223372036854775807) : catO s t = some (bstr (l ++ m)) := by
  subst hl hm
  rw [sbytes_len, sbytes_len] at h
  exact cat_of h
theorem cats (p : T_Path) (h : Small p) {R : Type} (f : ByteArray → Option R) (r : Option R) (hr : f (bstr (60 :: (sbytes p.Local ++ 64 :: (sbytes p.Domain ++ [62])))) = r) :
    ((catO (⟨#[60]⟩ : ByteArray) p.Local).bind fun v4 =>
      (catO v4 (⟨#[64]⟩ : ByteArray)).bind fun v5 =>
      (catO v5 p.Domain).bind fun v6 =>
      (catO v6 (⟨#[62]⟩ : ByteArray)).bind fun v7 => f v7) = r := by
  have hl := h.l; have hd := h.d
  have bl := byt_sbytes p.Local; have bd := byt_sbytes p.Domain
  have b60 : byt [60] := byt_cons (by omega) byt_nil
  have b64 : byt [64] := byt_cons (by omega) byt_nil
  have k1 := catL (s := ⟨#[60]⟩) (t := p.Local) sb60 rfl (by simp [sbytes_len]; omega)
  have k2 := catL (s := bstr ([60] ++ sbytes p.Local)) (t := ⟨#[64]⟩) (m := [64]) (sbytes_bstr (byt_app b60 bl)) rfl (by simp [sbytes_len]; omega)
  have k3 := catL (s := bstr ([60] ++ sbytes p.Local ++ [64])) (t := p.Domain) (sbytes_bstr (byt_app (byt_app b60 bl) b64)) rfl (by simp [sbytes_len]; omega)
  have k4 := catL (s := bstr ([60] ++ sbytes p.Local ++ [64] ++ sbytes p.Domain)) (t := ⟨#[62]⟩) (m := [62]) (sbytes_bstr (byt_app (byt_app (byt_app b60 bl) b64) bd)) rfl (by simp [sbytes_len]; omega)
  refine bnd k1 (bnd k2 (bnd k3 (bnd k4 ?_)))
  rw [← hr]
  congr 2
  simp
theorem text_eq (p : T_Path) (h : Small p) : path_Text p = some (cond (patB p) (bstr (txtL p), 0) (e0, 5)) := by
  unfold path_Text
  refine bnd (check_eq p h) ?_
  cases hp : patB p
  · exact cnd_t rfl rfl
  · refine cnd_f rfl ?_
    unfold txtL
    cases hn : p.Null
    · exact cnd_f rfl (cats p h _ _ rfl)
    · exact cnd_t rfl rfl
end Go.Abs.Sh
