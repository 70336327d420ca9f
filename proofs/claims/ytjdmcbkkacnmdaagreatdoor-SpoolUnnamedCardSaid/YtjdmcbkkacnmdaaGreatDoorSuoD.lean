import Derived.Test.YtjdmcbkkacnmdaaGreatDoorSpoC
import Derived.Test.YtjdmcbkkacnmdaaGreatDoorSuoK
import Derived.Test.YtjdmcbkkacnmdaaGreatDoorPatB
import Derived.Test.YtjdmcbkkacnmdaaGreatDoorDotA
namespace Go.Abs.Sh
set_option linter.unusedVariables false
set_option linter.unusedSimpArgs false
set_option maxRecDepth 10000
def evS (m : T_Mail) : Int → Option (Int ⊕ (Unit ⊕ Bool)) := (fun (s24 : Int) =>
      cond ((decide (s24 < (m.To.length : Int))))
       ((ixO s24 m.To.length).bind fun v8 =>
       (getO m.To v8).bind fun v9 =>
       bindS (S := Bool) (A := ((Int) ⊕ ((Unit) ⊕ Bool)))
        ((path_Check v9).bind fun v10 =>
        cond ((v10 != 0))
         (some (.inl true))
         (some (.inl v9.Null)))
        (fun (s38 : Bool) =>
         cond (s38)
          (some (.inr (.inr (false))))
          ((some (IntKind.i64.wrap (s24 + 1))).bind fun v16 =>
          some (.inl v16))) some)
       (some (.inr (.inl ()))))
def fnS (s : List T_Item) (n : Int) : Int → Option (Int ⊕ (Unit ⊕ Int)) := (fun (s10 : Int) =>
   cond ((decide (s10 < (s.length : Int))))
    ((ixO s10 s.length).bind fun v2 =>
    (getO s v2).bind fun v3 =>
    (spool_find_1_cap ((T_Item.mk v3.Id ((T_Mail.mk (T_Path.mk v3.Mail.From.Null v3.Mail.From.Local v3.Mail.From.Domain) v3.Mail.To v3.Mail.Body v3.Mail.Quiet v3.Mail.Helo v3.Mail.At)) v3.State v3.Pack)) n).bind fun v4 =>
    cond (v4)
     (some (.inr (.inr (s10))))
     ((some (IntKind.i64.wrap (s10 + 1))).bind fun v6 =>
     some (.inl v6)))
    (some (.inr (.inl ()))))
def idS (s : T_Spool) (ids : List Int) : Int → Option (Int ⊕ (Unit ⊕ Bool)) := (fun (s27 : Int) =>
      cond ((decide (s27 < (ids.length : Int))))
       ((ixO s27 ids.length).bind fun v7 =>
       (getO ids v7).bind fun v8 =>
       bindS (S := Bool) (A := ((Int) ⊕ ((Unit) ⊕ Bool)))
        (cond ((decide (0 < s27)))
         ((some (IntKind.i64.wrap (s27 - 1))).bind fun v9 =>
         (ixO v9 ids.length).bind fun v10 =>
         (getO ids v10).bind fun v11 =>
         cond ((decide (v8 ≤ v11)))
          (some (.inl true))
          ((spool_waits s v8).bind fun v12 =>
          some (.inl (!v12))))
         ((spool_waits s v8).bind fun v13 =>
         some (.inl (!v13))))
        (fun (s41 : Bool) =>
         cond (s41)
          (some (.inr (.inr (false))))
          ((some (IntKind.i64.wrap (s27 + 1))).bind fun v19 =>
          some (.inl v19))) some)
       (some (.inr (.inl ()))))
/-! What is told always,whatever it is. -/
def PL {A : Type} (m : Option (Bool ⊕ A)) : Prop := ∃ b,m = some (.inl b)
theorem inl_of {A : Type} {a b : Bool} (h : a = b) : (some (.inl a) : Option (Bool ⊕ A)) = some (.inl b) := by rw [h]
theorem pl {A : Type} (b : Bool) : PL (A := A) (some (.inl b)) := ⟨b,rfl⟩
theorem tc {A : Type} {c : Bool} {x y : Option (Bool ⊕ A)} (hx : PL x) (hy : PL y) : PL (cond c x y) := by cases c; exact hy; exact hx
theorem tb {A X : Type} {o : Option X} {f : X → Option (Bool ⊕ A)} {x : X} (h : o = some x) (hf : PL (f x)) : PL (o.bind f) := by subst h; exact hf
theorem fin {m : Option (Bool ⊕ Bool)} {f : Bool → Option Bool} {g : Bool → Option Bool} (h : PL m) (hf : ∀ b,∃ c,f b = some c) : ∃ b,bindS m f g = some b := by
 obtain ⟨b,rfl⟩ := h
 exact hf b
theorem rest_tot (r : T_Rec) : ∃ q,spool_rest_sh r = some q := by
 unfold spool_rest_sh
 cases (r.Kind == 1) <;> cases (r.Kind == 2) <;> cases (r.Kind == 3) <;> cases (r.Kind == 6) <;> cases (r.Kind == 4) <;> cases (r.Kind == 5) <;> exact ⟨_,rfl⟩
theorem empty_tot (r : T_Rec) : ∃ b,spool_empty r = some b := by
 unfold spool_empty
 refine fin ?_ fun b => fin ?_ fun c => ⟨_,rfl⟩
 ·iterate 6 (first | exact pl _ | refine tc ?_ (pl _))
 ·iterate 8 (first | exact pl _ | refine tc ?_ (pl _))
def erO (r : T_Rec) : Option Bool := (spool_rest_sh r).bind spool_empty
def er (r : T_Rec) : Bool := (erO r).getD false
theorem er_eq (r : T_Rec) : erO r = some (er r) := by
 obtain ⟨q,h⟩ := rest_tot r
 obtain ⟨b,h'⟩ := empty_tot q
 have : erO r = some b := by unfold erO; exact bnd h h'
 simp only [er,this,Option.getD_some]
theorem lm_small {m : T_Mail} (h : LM m) : Small m.From ∧ (∀ p ∈ m.To,Small p) ∧ m.Body.length ≤ 20000 ∧ m.To.length ≤ 40 := by
 obtain ⟨h1,h2⟩ := h
 have h2' := h2
 simp only [mW] at h2
 refine ⟨⟨by omega,by omega⟩,fun p hp => ?_,by omega,h1⟩
 have := pW_le_psum hp
 simp only [pW] at this
 exact ⟨by omega,by omega⟩
theorem loop_each {R : Type} {f : Int → Option (Int ⊕ (Unit ⊕ R))} (n : Nat) (h : ∀ i : Nat,i < n → f (i : Int) = some (.inl ((i + 1 : Nat) : Int)) ∨ ∃ r,f (i : Int) = some (.inr (.inr r))) (hend : f (n : Int) = some (.inr (.inl ()))) :
  ∀ (d i fuel : Nat),i + d = n → d < fuel → ∃ o,loopF f fuel (i : Int) = some o
 | d,i,0,_,hf => absurd hf (Nat.not_lt_zero d)
 | 0,i,fuel + 1,hd,hf => by
  obtain rfl : i = n := by omega
  exact ⟨_,loop_exit hend⟩
 | d + 1,i,fuel + 1,hd,hf => by
  rcases h i (by omega) with h1 | ⟨r,h1⟩
  ·obtain ⟨o,ho⟩ := loop_each n h hend d (i + 1) fuel (by omega) (by omega)
   exact ⟨o,by rw [loop_next h1]; exact ho⟩
  ·exact ⟨_,loop_exit h1⟩
theorem env_tot {m : T_Mail} (h : LM m) : ∃ b,envelope_Valid m = some b := by
 obtain ⟨h1,h2,h3,h4⟩ := lm_small h
 unfold envelope_Valid
 refine fin (tb (check_eq _ h1) (tc (pl _) (tc (pl _) (pl _)))) fun b => ?_
 cases b
 ·refine (fun ⟨b,h⟩ => ⟨b,cnd_f rfl h⟩ : (∃ b,_ = some b) → _) ?_
  have hx := loop_each (R := Bool) (f := evS m) m.To.length (fun i hi => ?_) (cnd_f (decide_eq_false (by omega)) rfl) m.To.length 0 BIG (by omega) (by simp only [BIG]; omega)
  ·obtain ⟨o,ho⟩ := hx
   cases o with
   | inl u => exact ⟨true,bndL ho rfl⟩
   | inr b => exact ⟨b,bndR ho rfl⟩
  ·obtain ⟨b,hb⟩ : PL (A := Int ⊕ (Unit ⊕ Bool)) ((path_Check m.To[i]).bind fun v10 => cond ((v10 != 0)) (some (.inl true)) (some (.inl m.To[i].Null))) := tb (check_eq _ (h2 _ (List.getElem_mem hi))) (tc (pl _) (pl _))
   have e : evS m (i : Int) = some (if b then .inr (.inr false) else .inl ((i + 1 : Nat) : Int)) := by
    refine cnd_t (decide_eq_true (by omega)) (bnd (ixO_of hi) (bnd (by simp [getO,hi] : getO m.To i = some m.To[i]) (bndL hb ?_)))
    cases b
    ·exact cnd_f rfl (bnd (congrArg some (wrap_succ (n := i) (by omega))) rfl)
    ·rfl
   rw [e]
   cases b
   ·exact .inl rfl
   ·exact .inr ⟨_,rfl⟩
 ·exact ⟨false,rfl⟩
theorem dchk_tot {b : List Int} (hb : byt b) (hl : b.length < 4294967281) : ∃ n,dots_Check b = some n := by
 rcases check_any hb hl with h | ⟨ls,h1,h2,rfl⟩
 ·exact ⟨_,h⟩
 ·exact ⟨_,check_ok h1 h2 (by rw [← jn_len]; exact hl)⟩
theorem mail_tot {m : T_Mail} (h : LM m) (hb : byt m.Body) : ∃ b,spool_validMail m = some b := by
 obtain ⟨b,h1⟩ := env_tot h
 obtain ⟨n,h2⟩ := dchk_tot hb (by have := (lm_small h).2.2.1; omega)
 unfold spool_validMail
 exact fin (tb h1 (tc (tb h2 (tc (tc (pl _) (pl _)) (pl _))) (pl _))) fun c => ⟨_,rfl⟩
def mv (m : T_Mail) : Bool := (spool_validMail m).getD false
theorem mv_eq {m : T_Mail} (h : LM m) (hb : byt m.Body) : spool_validMail m = some (mv m) := by
 obtain ⟨b,h⟩ := mail_tot h hb
 simp only [mv,h,Option.getD_some]
/-! A spool's items by their Ids. -/
def Ids (s : T_Spool) : Prop := ∀ i (h : i < s.Items.length),s.Items[i].Id = (i : Int) + 1
theorem find_eq (s : T_Spool) (hid : Ids s) (hl : s.Items.length < 4294967296) (n : Int) : spool_find s n = some (if 1 ≤ n ∧ n ≤ (s.Items.length : Int) then n - 1 else -1) := by
 unfold spool_find slices_IndexFunc_api_Item_api_Item_of_spool_find_1
 have go : ∀ i,i < s.Items.length → (i : Int) + 1 ≠ n → fnS s.Items n (i : Int) = some (.inl ((i + 1 : Nat) : Int)) := by
  intro i hi hne
  refine cnd_t (decide_eq_true (by omega)) (bnd (ixO_of hi) (bnd (by simp [getO,hi] : getO s.Items i = some s.Items[i]) (bnd (x := false) ?_ (cnd_f rfl (bnd (congrArg some (wrap_succ (by omega))) rfl)))))
  show some (s.Items[i].Id == n) = some false
  rw [hid i hi,beq_eq_false_iff_ne.2 hne]
 by_cases hn : 1 ≤ n ∧ n ≤ (s.Items.length : Int)
 ·rw [if_pos hn]
  obtain ⟨k,rfl⟩ : ∃ k : Nat,n = (k : Int) + 1 := ⟨(n - 1).toNat,by omega⟩
  have hk : k < s.Items.length := by omega
  refine bnd (bndR (a := (k : Int)) (loop_from (fun i => ((i : Nat) : Int)) k BIG rfl (by simp only [BIG]; omega) (fun i hi => go i (by omega) (by omega)) ?_) rfl) (by rw [Int.add_sub_cancel])
  refine cnd_t (decide_eq_true (by omega)) (bnd (ixO_of hk) (bnd (by simp [getO,hk] : getO s.Items k = some s.Items[k]) (bnd (x := true) ?_ rfl)))
  show some (s.Items[k].Id == (k : Int) + 1) = some true
  rw [hid k hk,beq_self_eq_true]
 ·rw [if_neg hn]
  refine bnd (bndL (s := ()) (loop_from (fun i => ((i : Nat) : Int)) s.Items.length BIG rfl (by simp only [BIG]; omega) (fun i hi => go i hi (by omega)) ?_) rfl) rfl
  exact cnd_f (decide_eq_false (by omega)) rfl
def wt (s : T_Spool) (n : Int) : Bool := decide (1 ≤ n ∧ n ≤ (s.Items.length : Int)) && ((s.Items[(n - 1).toNat]?.map (·.State)) == some 1)
theorem waits_eq (s : T_Spool) (hid : Ids s) (hl : s.Items.length < 4294967296) (n : Int) : spool_waits s n = some (wt s n) := by
 unfold spool_waits wt
 refine bnd (find_eq s hid hl n) ?_
 by_cases hn : 1 ≤ n ∧ n ≤ (s.Items.length : Int)
 ·rw [if_pos hn,decide_eq_true hn,Bool.true_and]
  obtain ⟨k,rfl⟩ : ∃ k : Nat,n = (k : Int) + 1 := ⟨(n - 1).toNat,by omega⟩
  have hk : k < s.Items.length := by omega
  have e : (((k : Int) + 1) - 1) = (k : Int) := by omega
  rw [e,Int.toNat_natCast,List.getElem?_eq_getElem hk]
  exact bndL (s := (s.Items[k].State == 1)) (cnd_t (decide_eq_true (by omega)) (bnd (ixO_of hk) (bnd (by simp [getO,hk] : getO s.Items k = some s.Items[k]) rfl))) (by cases h : (s.Items[k].State == 1) <;> simp_all)
 ·rw [if_neg hn,decide_eq_false hn,Bool.false_and]
  exact bndL (s := false) rfl rfl
def idB (s : T_Spool) (ids : List Int) (i : Nat) : Bool := (i == 0 || decide (ids.getD (i - 1) 0 < ids.getD i 0)) && wt s (ids.getD i 0)
def idsB (s : T_Spool) (ids : List Int) : Bool := decide (1 ≤ ids.length ∧ ids.length ≤ 4) && decide (∀ i,i < ids.length → idB s ids i = true)
theorem ids_eq (s : T_Spool) (hid : Ids s) (hl : s.Items.length < 4294967296) (ids : List Int) : spool_validIds s ids = some (idsB s ids) := by
 unfold spool_validIds idsB
 by_cases h1 : ids.length < 1
 ·rw [decide_eq_false (by omega : ¬ (1 ≤ ids.length ∧ ids.length ≤ 4)),Bool.false_and]
  exact bndL (s := true) (cnd_t (decide_eq_true (by omega)) rfl) rfl
 ·by_cases h4 : 4 < ids.length
  ·rw [decide_eq_false (by omega : ¬ (1 ≤ ids.length ∧ ids.length ≤ 4)),Bool.false_and]
   exact bndL (s := true) (cnd_f (decide_eq_false (by omega)) (inl_of (decide_eq_true (by omega)))) rfl
  ·rw [decide_eq_true (by omega : 1 ≤ ids.length ∧ ids.length ≤ 4),Bool.true_and]
   refine bndL (s := false) (cnd_f (decide_eq_false (by omega)) (inl_of (decide_eq_false (by omega)))) (cnd_f rfl ?_)
   have rnd : ∀ i,i < ids.length → idS s ids (i : Int) = some (if idB s ids i then .inl ((i + 1 : Nat) : Int) else .inr (.inr false)) := by
    intro i hi
    have hg : getO ids i = some ids[i] := by simp [getO,hi]
    have hd : ids.getD i 0 = ids[i] := by simp [List.getD,hi]
    refine cnd_t (decide_eq_true (by omega)) (bnd (ixO_of hi) (bnd hg (bndL (s := !idB s ids i) ?_ ?_)))
    ·cases i with
     | zero => exact cnd_f rfl (bnd (waits_eq s hid hl _) (by simp only [idB,hd,beq_self_eq_true,Bool.true_or,Bool.true_and]))
     | succ k =>
      have hk : k < ids.length := by omega
      have hw : IntKind.i64.wrap (((k + 1 : Nat) : Int) - 1) = (k : Int) := by rw [wrap_i64 (by omega) (by omega)]; omega
      have hd' : ids.getD (k + 1 - 1) 0 = ids[k] := by simp [List.getD,hk]
      refine cnd_t (decide_eq_true (by omega)) (bnd (congrArg some hw) (bnd (ixO_of hk) (bnd (by simp [getO,hk] : getO ids k = some ids[k]) ?_)))
      have e0 : (k + 1 == 0) = false := rfl
      simp only [idB,hd,hd',e0,Bool.false_or]
      by_cases hle : ids[k + 1] ≤ ids[k]
      ·rw [decide_eq_false (by omega : ¬ ids[k] < ids[k + 1]),Bool.false_and]
       exact cnd_t (decide_eq_true hle) rfl
      ·rw [decide_eq_true (by omega : ids[k] < ids[k + 1]),Bool.true_and]
       exact cnd_f (decide_eq_false hle) (bnd (waits_eq s hid hl _) rfl)
    ·cases idB s ids i
     ·rfl
     ·exact cnd_f rfl (bnd (congrArg some (wrap_succ (n := i) (by omega))) rfl)
   have hrun := loop_all (R := Bool) (idB s ids) ids.length false (fuel := BIG) (by simp only [BIG]; omega) (fun i hi hp => by have := rnd i hi; rw [hp] at this; exact this) (fun i hi hp => by have := rnd i hi; rw [hp] at this; exact this) (cnd_f (decide_eq_false (by omega : ¬ ((ids.length : Nat) : Int) < (ids.length : Int))) rfl)
   by_cases ha : ∀ i,i < ids.length → idB s ids i = true
   ·rw [if_pos ha] at hrun
    rw [decide_eq_true ha]
    exact bndL hrun rfl
   ·rw [if_neg ha] at hrun
    rw [decide_eq_false ha]
    exact bndR hrun rfl
end Go.Abs.Sh
