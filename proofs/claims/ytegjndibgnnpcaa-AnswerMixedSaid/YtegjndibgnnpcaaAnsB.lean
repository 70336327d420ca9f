import Derived.Test.YtegjndibgnnpcaaAnsM
namespace Go.Abs.Sh
set_option linter.unusedVariables false
set_option linter.unusedSimpArgs false

def head3 (c : Int) : List Int := [48 + c / 100, 48 + c / 10 % 10, 48 + c % 10]
def lineB (c mark : Int) (s : ByteArray) : List Int := head3 c ++ [mark] ++ sbytes s ++ [13, 10]
def markOf (n i : Nat) : Int := if i + 1 = n then 32 else 45
def accB (c : Int) (ls : List ByteArray) (i : Nat) : List Int := (List.range i).flatMap fun j => lineB c (markOf ls.length j) (ls.getD j ⟨#[]⟩)
def repB (r : T_Reply) : List Int := accB r.Code r.Lines r.Lines.length

theorem accB_succ (c : Int) (ls : List ByteArray) (i : Nat) : accB c ls (i + 1) = accB c ls i ++ lineB c (markOf ls.length i) (ls.getD i ⟨#[]⟩) := by
  simp [accB, List.range_succ]
theorem lineB_len (c mark : Int) (s : ByteArray) : (lineB c mark s).length = s.size + 6 := by simp [lineB, head3, sbytes_len]
theorem accB_len (c : Int) (ls : List ByteArray) (h : ∀ l ∈ ls, l.size ≤ 200) : ∀ i, i ≤ ls.length → (accB c ls i).length ≤ 206 * i
  | 0, _ => by simp [accB]
  | i + 1, hi => by
    rw [accB_succ, List.length_append, lineB_len]
    have := accB_len c ls h i (by omega)
    have hx : ls.getD i ⟨#[]⟩ = ls[i] := by simp [List.getD_eq_getElem?_getD, List.getElem?_eq_getElem (show i < ls.length by omega)]
    have := h ls[i] (List.getElem_mem (by omega))
    rw [hx]; omega

structure OkRep (r : T_Reply) : Prop where
  c1 : 200 ≤ r.Code
  c2 : r.Code ≤ 559
  c3 : r.Code / 10 % 10 ≤ 5
  n1 : 1 ≤ r.Lines.length
  n2 : r.Lines.length ≤ 20
  ln : ∀ l ∈ r.Lines, l.size ≤ 200
  by_ : ∀ l ∈ r.Lines, ∀ x ∈ sbytes l, 32 ≤ x ∧ x ≤ 126
theorem okRep_iff {r : T_Reply} : okRep r = true ↔ OkRep r := by
  simp only [okRep, okCode, okLine, okByte, Bool.and_eq_true, decide_eq_true_eq, List.all_eq_true]
  constructor
  · rintro ⟨⟨⟨⟨⟨h1, h2⟩, h3⟩, h4⟩, h5⟩, h6⟩
    exact ⟨h1, h2, h3, h4, h5, fun l hl => (h6 l hl).1, fun l hl => (h6 l hl).2⟩
  · rintro ⟨h1, h2, h3, h4, h5, h6, h7⟩
    exact ⟨⟨⟨⟨⟨h1, h2⟩, h3⟩, h4⟩, h5⟩, fun l hl => ⟨h6 l hl, h7 l hl⟩⟩

theorem quo_i (c : Int) (b : Nat) (h0 : 0 ≤ c) (h1 : c ≤ 100000) (hb : 0 < b) : quoO .i64 c (b : Int) = some (c / (b : Int)) := by
  obtain ⟨n, rfl⟩ : ∃ n : Nat, c = (n : Int) := ⟨c.toNat, by omega⟩
  rw [quo_nat n b hb (by omega)]; rfl
theorem rem_i (c : Int) (b : Nat) (h0 : 0 ≤ c) (hb : 0 < b) : remO c (b : Int) = some (c % (b : Int)) := by
  obtain ⟨n, rfl⟩ : ∃ n : Nat, c = (n : Int) := ⟨c.toNat, by omega⟩
  rw [rem_nat n b hb]; rfl

theorem bytes13 (r : T_Reply) : answer_Bytes r = some (cond (okRep r) (repB r, 0) ([], 5)) := by
  unfold answer_Bytes
  refine bnd (check13 r) ?_
  cases hok : okRep r
  · exact cnd_t rfl rfl
  have h := okRep_iff.1 hok
  have c1 := h.c1; have c2 := h.c2; have n1 := h.n1; have n2 := h.n2
  refine cnd_f rfl (bndL (s := repB r) ?_ rfl)
  refine loop_from (f := bytS r) (fun i => (accB r.Code r.Lines i, (i : Int))) r.Lines.length BIG rfl (by unfold BIG; omega) (fun i hi => ?_) (by unfold bytS; exact cnd_f (by simp) rfl)
  have hal := accB_len r.Code r.Lines h.ln i (by omega)
  have hll := h.ln _ (List.getElem_mem hi)
  have hgd : r.Lines.getD i ⟨#[]⟩ = r.Lines[i] := by simp [List.getD_eq_getElem?_getD, List.getElem?_eq_getElem hi]
  obtain ⟨s, hs⟩ : ∃ s, s = r.Lines[i] := ⟨_, rfl⟩
  have hg := getO_of hi
  rw [← hs] at hg hll hgd
  have hm : (cond (((i : Int) == ((r.Lines.length - 1 : Nat) : Int))) (some (.inl 32)) (some (.inl 45)) : Option (Int ⊕ (((List Int) × Int) ⊕ (((List Int)) ⊕ ((List Int) × Int))))) = some (.inl (markOf r.Lines.length i)) := by
    unfold markOf
    by_cases hlast : i + 1 = r.Lines.length
    · rw [if_pos hlast]; exact cnd_t (by simp; omega) rfl
    · rw [if_neg hlast]; exact cnd_f (by simp; omega) rfl
  have q1 := quo_i r.Code 100 (by omega) (by omega) (by omega)
  have q2 := quo_i r.Code 10 (by omega) (by omega) (by omega)
  have q3 := rem_i (r.Code / 10) 10 (by omega) (by omega)
  have q4 := rem_i r.Code 10 (by omega) (by omega)
  have b1 : 0 ≤ r.Code / 100 ∧ r.Code / 100 ≤ 5 := by omega
  have b2 : 0 ≤ r.Code / 10 % 10 ∧ r.Code / 10 % 10 ≤ 9 := by omega
  have b3 : 0 ≤ r.Code % 10 ∧ r.Code % 10 ≤ 9 := by omega
  have a1 : appO 1 (accB r.Code r.Lines i) [48 + r.Code / 100, 48 + r.Code / 10 % 10, 48 + r.Code % 10, markOf r.Lines.length i] = some (accB r.Code r.Lines i ++ [48 + r.Code / 100, 48 + r.Code / 10 % 10, 48 + r.Code % 10, markOf r.Lines.length i]) := app_of (by simp; omega) (by simp; omega)
  have a2 : appO 1 (accB r.Code r.Lines i ++ [48 + r.Code / 100, 48 + r.Code / 10 % 10, 48 + r.Code % 10, markOf r.Lines.length i]) (sbytes s) = some _ := app_of (by simp [sbytes_len]; omega) (by simp [sbytes_len]; omega)
  have a3 : appO 1 (accB r.Code r.Lines i ++ [48 + r.Code / 100, 48 + r.Code / 10 % 10, 48 + r.Code % 10, markOf r.Lines.length i] ++ sbytes s) (sbytes (⟨#[13, 10]⟩ : ByteArray)) = some _ := app_of (by rw [show (sbytes (⟨#[13, 10]⟩ : ByteArray)).length = 2 from rfl]; simp [sbytes_len]; omega) (by rw [show (sbytes (⟨#[13, 10]⟩ : ByteArray)).length = 2 from rfl]; simp [sbytes_len]; omega)
  have w0 : IntKind.i64.wrap ((r.Lines.length : Int) - 1) = ((r.Lines.length - 1 : Nat) : Int) := by rw [wrap_i64 (by omega) (by omega)]; omega
  unfold bytS
  refine cnd_t (by simp; omega) (bnd (ixO_of hi) (bnd hg (bndL (s := markOf r.Lines.length i) (bnd (x := ((r.Lines.length - 1 : Nat) : Int)) (by rw [w0]) hm) ?_)))
  refine bnd q1 (bnd (x := 48 + r.Code / 100) (by rw [wrap_i64 (by omega) (by omega)]; rfl) (bnd (x := 48 + r.Code / 100) (by rw [u8_wrap (by omega) (by omega)]) (bnd q2 (bnd q3 (bnd (x := 48 + r.Code / 10 % 10) (by rw [wrap_i64 (by omega) (by omega)]; rfl) (bnd (x := 48 + r.Code / 10 % 10) (by rw [u8_wrap (by omega) (by omega)]) (bnd q4 (bnd (x := 48 + r.Code % 10) (by rw [wrap_i64 (by omega) (by omega)]; rfl) (bnd (x := 48 + r.Code % 10) (by rw [u8_wrap (by omega) (by omega)]) (bnd a1 (bnd a2 (bnd a3 (bnd (by rw [wrap_succ (by omega)]) ?_)))))))))))))
  rw [accB_succ, hgd]
  simp [lineB, head3, sbytes]

theorem digits_all : (List.range 360).all (fun k => decide (wherryref11_Digits ((200 + k : Nat) : Int) = some (bstr (head3 ((200 + k : Nat) : Int))))) = true := by kernel_rfl
theorem digits3 (c : Int) (h1 : 200 ≤ c) (h2 : c ≤ 559) : wherryref11_Digits c = some (bstr (head3 c)) := by
  have := List.all_eq_true.1 digits_all (c - 200).toNat (by simp; omega)
  have e : ((200 + (c - 200).toNat : Nat) : Int) = c := by omega
  rw [e] at this
  simpa using this
theorem byt_head3 {c : Int} (h1 : 200 ≤ c) (h2 : c ≤ 559) : byt (head3 c) := by
  intro x hx
  simp only [head3, List.mem_cons, List.not_mem_nil, or_false] at hx
  omega
theorem byt_accB {r : T_Reply} (h : OkRep r) : ∀ i, byt (accB r.Code r.Lines i)
  | 0 => by intro x hx; simp [accB] at hx
  | i + 1 => by
    rw [accB_succ]
    refine byt_app (byt_accB h i) ?_
    unfold lineB
    refine byt_app (byt_app (byt_app (byt_head3 h.c1 h.c2) ?_) (byt_sbytes _)) ?_
    · intro x hx; simp only [List.mem_singleton] at hx; subst hx; unfold markOf; split <;> omega
    · intro x hx; simp at hx; omega

theorem refBytes_eq {r : T_Reply} (h : OkRep r) : wherryref11_ReplyBytes r = some (repB r) := by
  unfold wherryref11_ReplyBytes
  have c1 := h.c1; have c2 := h.c2; have n1 := h.n1; have n2 := h.n2
  refine bndL (s := bstr (repB r)) ?_ (bnd (x := repB r) (by rw [sbytes_bstr (show byt (repB r) from byt_accB h _)]) rfl)
  refine loop_from (f := rbytS r) (fun i => (bstr (accB r.Code r.Lines i), (i : Int))) r.Lines.length BIG rfl (by unfold BIG; omega) (fun i hi => ?_) (by unfold rbytS; exact cnd_f (by simp) rfl)
  have hal := accB_len r.Code r.Lines h.ln i (by omega)
  have hll := h.ln _ (List.getElem_mem hi)
  have hgd : r.Lines.getD i ⟨#[]⟩ = r.Lines[i] := by simp [List.getD_eq_getElem?_getD, List.getElem?_eq_getElem hi]
  obtain ⟨s, hs⟩ : ∃ s, s = r.Lines[i] := ⟨_, rfl⟩
  have hg := getO_of hi
  rw [← hs] at hg hll hgd
  have w0 : IntKind.i64.wrap ((r.Lines.length : Int) - 1) = ((r.Lines.length - 1 : Nat) : Int) := by rw [wrap_i64 (by omega) (by omega)]; omega
  have hm : (cond (((i : Int) == ((r.Lines.length - 1 : Nat) : Int))) (some (.inl (⟨#[32]⟩ : ByteArray))) (some (.inl (⟨#[45]⟩ : ByteArray))) : Option (ByteArray ⊕ ((ByteArray × Int) ⊕ ((ByteArray) ⊕ (List Int))))) = some (.inl (bstr [markOf r.Lines.length i])) := by
    unfold markOf
    by_cases hlast : i + 1 = r.Lines.length
    · rw [if_pos hlast]; exact cnd_t (by simp; omega) rfl
    · rw [if_neg hlast]; exact cnd_f (by simp; omega) rfl
  have hb3 := byt_head3 c1 c2
  have hba := byt_accB h i
  have hbm : byt [markOf r.Lines.length i] := by intro x hx; simp only [List.mem_singleton] at hx; subst hx; unfold markOf; split <;> omega
  have k1 : catO (bstr (accB r.Code r.Lines i)) (bstr (head3 r.Code)) = some (bstr (accB r.Code r.Lines i ++ head3 r.Code)) := by
    rw [cat_of (by simp only [bstr_size]; simp [head3]; omega), sbytes_bstr hba, sbytes_bstr hb3]
  have k2 : catO (bstr (accB r.Code r.Lines i ++ head3 r.Code)) (bstr [markOf r.Lines.length i]) = some (bstr (accB r.Code r.Lines i ++ head3 r.Code ++ [markOf r.Lines.length i])) := by
    rw [cat_of (by simp only [bstr_size]; simp [head3]; omega), sbytes_bstr (byt_app hba hb3), sbytes_bstr hbm]
  have k3 : catO (bstr (accB r.Code r.Lines i ++ head3 r.Code ++ [markOf r.Lines.length i])) s = some (bstr (accB r.Code r.Lines i ++ head3 r.Code ++ [markOf r.Lines.length i] ++ sbytes s)) := by
    rw [cat_of (by simp only [bstr_size]; simp [head3]; omega), sbytes_bstr (byt_app (byt_app hba hb3) hbm)]
  have k4 : catO (bstr (accB r.Code r.Lines i ++ head3 r.Code ++ [markOf r.Lines.length i] ++ sbytes s)) (⟨#[13, 10]⟩ : ByteArray) = some (bstr (accB r.Code r.Lines i ++ head3 r.Code ++ [markOf r.Lines.length i] ++ sbytes s ++ [13, 10])) := by
    rw [cat_of (by simp only [bstr_size]; simp [head3, sbytes_len]; show _ + 2 ≤ _; omega), sbytes_bstr (byt_app (byt_app (byt_app hba hb3) hbm) (byt_sbytes s))]; rfl
  unfold rbytS
  refine cnd_t (by simp; omega) (bndL (s := bstr [markOf r.Lines.length i]) (bnd (x := ((r.Lines.length - 1 : Nat) : Int)) (by rw [w0]) hm) (bnd (digits3 _ c1 c2) (bnd k1 (bnd k2 (bnd (ixO_of hi) (bnd hg (bnd k3 (bnd k4 (bnd (by rw [wrap_succ (by omega)]) ?_)))))))))
  rw [accB_succ, hgd]
  simp [lineB, List.append_assoc]
end Go.Abs.Sh
