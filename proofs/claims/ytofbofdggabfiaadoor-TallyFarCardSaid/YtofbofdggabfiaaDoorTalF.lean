import Derived.Test.YtofbofdggabfiaaDoorTalE
import Derived.KernelRfl
namespace Go.Abs.Sh
set_option linter.unusedVariables false
set_option linter.unusedSimpArgs false
set_option maxRecDepth 10000
def viS (s : ByteArray) (lo : Int) : ((Int)) → Option ((Int) ⊕ ((Unit) ⊕ Bool)) := (fun (s12 : Int) =>
  cond ((decide (s12 < (s.size : Int))))
   ((chrO s s12).bind fun v4 =>
   (some (IntKind.i64.wrap v4)).bind fun v5 =>
   (wherryref23_in v5 lo 126).bind fun v6 =>
   cond ((!v6))
    (some (.inr (.inr (false))))
    ((some (IntKind.i64.wrap (s12 + 1))).bind fun v8 =>
    some (.inl v8)))
   (some (.inr (.inl ()))))
def eaS (m : T_Mail) (domain : ByteArray) : (((List T_Path) × Int)) → Option (((List T_Path) × Int) ⊕ (((List T_Path)) ⊕ (List T_Path))) := (fun ((s22,s23) : (List T_Path) × Int) =>
 cond ((decide (s23 < (m.To.length : Int))))
  (bindS (S := (List T_Path)) (A := (((List T_Path) × Int) ⊕ (((List T_Path)) ⊕ (List T_Path))))
   ((ixO s23 m.To.length).bind fun v2 =>
   (getO m.To v2).bind fun v3 =>
   (path_At v3 domain).bind fun v4 =>
   cond (v4)
    ((appO 40 s22 [v3]).bind fun v6 =>
    some (.inl v6))
    (some (.inl s22)))
   (fun (s40 : (List T_Path)) =>
    (some (IntKind.i64.wrap (s23 + 1))).bind fun v12 =>
    some (.inl (s40,v12))) some)
  (some (.inr (.inl s22))))
theorem wakes26 : wherrylaw26_wakes = some true := by kernel_rfl
theorem inlF {A : Type} {a b : Bool} (h : a = b) : (some (.inl a) : Option (Bool ⊕ A)) = some (.inl b) := by rw [h]
theorem rin23 (n lo hi : Int) : wherryref23_in n lo hi = some (decide (lo ≤ n) && decide (n ≤ hi)) := by
 unfold wherryref23_in
 by_cases h : lo ≤ n
 ·rw [decide_eq_true h]; exact bndL (s := decide (n ≤ hi)) (cnd_t rfl rfl) rfl
 ·rw [decide_eq_false h]; exact bndL (s := false) (cnd_f rfl rfl) rfl
theorem wadd23 {a b : Nat} (h : a + b < 9223372036854775808) : some (IntKind.i64.wrap ((a : Int) + (b : Int))) = some ((a + b : Nat) : Int) := by
 rw [wrap_i64 (by omega) (by omega)]; simp
theorem take_one {A : Type} {l : List A} {i : Nat} (h : i < l.length) : l.take (i + 1) = l.take i ++ [l[i]] := by
 rw [List.take_add_one,List.getElem?_eq_getElem h]; rfl
theorem vis_tot (s : ByteArray) (lo mo c : Int) (hs : s.size < 4000000000) : ∃ v,wherryref23_visible s lo mo c = some v := by
 have key : ∀ (k i fuel : Nat),i + k = s.size → k < fuel → ∃ r,loopF (viS s c) fuel (i : Int) = some r := by
  intro k
  induction k with
  | zero =>
   intro i fuel hi hf
   obtain ⟨fu,rfl⟩ : ∃ fu,fuel = fu + 1 := ⟨fuel - 1,by omega⟩
   exact ⟨_,loop_exit (cnd_f (decide_eq_false (by omega)) rfl)⟩
  | succ k ih =>
   intro i fuel hi hf
   obtain ⟨fu,rfl⟩ : ∃ fu,fuel = fu + 1 := ⟨fuel - 1,by omega⟩
   have hlt : i < s.size := by omega
   have hw : IntKind.i64.wrap ((i : Int) + 1) = ((i + 1 : Nat) : Int) := wrap_succ (by omega)
   obtain ⟨v,hv⟩ : ∃ v,chrO s (i : Int) = some v := ⟨_,chr_of hlt⟩
   by_cases hin : (decide (c ≤ IntKind.i64.wrap v) && decide (IntKind.i64.wrap v ≤ 126)) = true
   ·obtain ⟨r,hr⟩ := ih (i + 1) fu (by omega) (by omega)
    exact ⟨r,(loop_next (cnd_t (decide_eq_true (by omega)) (bnd hv (bnd rfl (bnd (rin23 _ _ _) (cnd_f (by rw [hin]; rfl) (bnd (congrArg some hw) rfl))))))).trans hr⟩
   ·rw [Bool.not_eq_true] at hin
    exact ⟨_,loop_exit (cnd_t (decide_eq_true (by omega)) (bnd hv (bnd rfl (bnd (rin23 _ _ _) (cnd_t (by rw [hin]; rfl) rfl)))))⟩
 unfold wherryref23_visible
 by_cases h : (decide (lo ≤ (s.size : Int)) && decide ((s.size : Int) ≤ mo)) = true
 ·obtain ⟨r,hr⟩ := key s.size 0 BIG (by omega) (by simp only [BIG]; omega)
  have hc : (!(decide (lo ≤ (s.size : Int)) && decide ((s.size : Int) ≤ mo))) = false := by rw [h]; rfl
  cases r with
  | inl u => exact ⟨true,bnd (rin23 _ _ _) (cnd_f hc (bndL hr rfl))⟩
  | inr b => exact ⟨b,bnd (rin23 _ _ _) (cnd_f hc (bndR hr rfl))⟩
 ·rw [Bool.not_eq_true] at h
  exact ⟨false,bnd (rin23 _ _ _) (cnd_t (by rw [h]; rfl) rfl)⟩
theorem hcfg (a b U S : ByteArray) (E L : Int) (H : Bool) (ha : a.size ≤ 140737488355328) (hb : b.size ≤ 140737488355328) (hU : U.size ≤ 140737488355328) (hS : S.size ≤ 140737488355328) :
  wherrylaw23_HeavyConfig (T_Config.mk ([a,b] : List ByteArray) E U S L H) = some (decide (2000 < a.size + b.size + U.size + S.size)) := by
 unfold wherrylaw23_HeavyConfig
 exact bnd (wadd23 (a := a.size) (b := b.size) (by omega)) (bnd (wadd23 (a := a.size + b.size) (b := U.size) (by omega)) (bnd (wadd23 (a := a.size + b.size + U.size) (b := S.size) (by omega)) (congrArg some (decide_eq_decide.2 (by omega)))))
theorem cfg23 (a b U S : ByteArray) (E L : Int) (H : Bool) (ha : a.size ≤ 2000) (hb : b.size ≤ 2000) (hU : U.size ≤ 2000) (hS : S.size ≤ 2000) :
  ∃ v,wherryref23_Config (T_Config.mk ([a,b] : List ByteArray) E U S L H) = some v ∧ (v = true → lowS a ≠ lowS b) := by
 unfold wherryref23_Config
 have d1 := rdom_eq a
 have d2 := rdom_eq b
 by_cases h1 : domB (sbytes a) = true
 case neg =>
  rw [Bool.not_eq_true] at h1; rw [h1] at d1
  exact ⟨false,bndL (s := false) (bnd d1 rfl) rfl,fun h => by cases h⟩
 rw [h1] at d1
 by_cases h2 : domB (sbytes b) = true
 case neg =>
  rw [Bool.not_eq_true] at h2; rw [h2] at d2
  exact ⟨false,bndL (s := false) (bnd d1 (cnd_t rfl (bnd d2 rfl))) rfl,fun h => by cases h⟩
 rw [h2] at d2
 have f1 := rfold_eq a (by omega)
 have f2 := rfold_eq b (by omega)
 by_cases h3 : lowS a = lowS b
 ·refine ⟨false,bndL (s := false) (bnd d1 (cnd_t rfl (bnd d2 (cnd_t rfl (bnd f1 (bnd f2 (cnd_f ?_ rfl))))))) rfl,fun h => by cases h⟩
  rw [toList_beq,decide_eq_true h3]; rfl
 have hne : (!((lowS a).toList == (lowS b).toList)) = true := by rw [toList_beq,decide_eq_false h3]; rfl
 obtain ⟨v1,e1⟩ := vis_tot U 1 64 33 (by omega)
 obtain ⟨v2,e2⟩ := vis_tot S 1 64 33 (by omega)
 have base : ∀ w,(cond (decide (1 ≤ E) && decide (E ≤ 1099511627776))
      ((wherryref23_visible U 1 64 33).bind fun v6 =>
      cond (v6)
       ((wherryref23_visible S 1 64 33).bind fun v7 =>
       cond (v7)
        ((wherryref23_in L 1 131072).bind fun v8 =>
        some (.inl v8))
        (some (.inl false)))
       (some (.inl false)))
      (some (.inl false)) : Option (Bool ⊕ Bool)) = some (.inl w) → ∃ v,bindS (S := Bool) (A := Bool) ((wherryref11_Domain a).bind fun v1 =>
  cond (v1)
   ((wherryref11_Domain b).bind fun v2 =>
   cond (v2)
    ((wherryref11_Fold a).bind fun v3 =>
    (wherryref11_Fold b).bind fun v4 =>
    cond ((!(v3.toList == v4.toList)))
     ((wherryref23_in E 1 1099511627776).bind fun v5 =>
     cond (v5)
      ((wherryref23_visible U 1 64 33).bind fun v6 =>
      cond (v6)
       ((wherryref23_visible S 1 64 33).bind fun v7 =>
       cond (v7)
        ((wherryref23_in L 1 131072).bind fun v8 =>
        some (.inl v8))
        (some (.inl false)))
       (some (.inl false)))
      (some (.inl false)))
     (some (.inl false)))
    (some (.inl false)))
   (some (.inl false))) (fun s9 => some s9) some = some v ∧ (v = true → lowS a ≠ lowS b) := fun w hw =>
  ⟨w,bndL (s := w) (bnd d1 (cnd_t rfl (bnd d2 (cnd_t rfl (bnd f1 (bnd f2 (cnd_t hne (bnd (rin23 _ _ _) hw)))))))) rfl,fun _ => h3⟩
 by_cases h4 : (decide (1 ≤ E) && decide (E ≤ 1099511627776)) = true
 case neg =>
  rw [Bool.not_eq_true] at h4
  exact base false (cnd_f h4 rfl)
 cases v1 with
 | false => exact base false (cnd_t h4 (bnd e1 rfl))
 | true =>
  cases v2 with
  | false => exact base false (cnd_t h4 (bnd e1 (cnd_t rfl (bnd e2 rfl))))
  | true => exact base _ (cnd_t h4 (bnd e1 (cnd_t rfl (bnd e2 (cnd_t rfl (bnd (rin23 _ _ _) rfl))))))
theorem eat_eq {m : T_Mail} {d : ByteArray} (hd : d.size ≤ 2000) (hl : m.To.length ≤ 40) (hm : mRe m) : envelope_At m d = some (m.To.filter fun p => atpB p d) := by
 unfold envelope_At
 refine bndL (s := m.To.filter fun p => atpB p d) (loop_from (f := eaS m d) (fun i => ((m.To.take i).filter fun p => atpB p d,((i : Nat) : Int))) m.To.length BIG rfl (by simp only [BIG]; omega) (fun i hi => ?_) ?_) rfl
 ·have hg := getO_of hi
  have ht := take_one hi
  have hp := hm.2.2.2.2.2 _ (List.getElem_mem hi)
  have hfl := List.length_filter_le (fun p => atpB p d) (m.To.take i)
  rw [List.length_take] at hfl
  rw [ht,List.filter_append]
  generalize m.To[i] = p at hg hp
  have ha := at_eq p d ⟨by omega,by omega⟩ (by omega)
  have hw : IntKind.i64.wrap ((i : Int) + 1) = ((i + 1 : Nat) : Int) := wrap_succ (by omega)
  refine cnd_t (decide_eq_true (by omega)) ?_
  by_cases hb : atpB p d = true
  ·rw [hb] at ha
   have hf : [p].filter (fun p => atpB p d) = [p] := by simp [hb]
   rw [hf]
   exact bndL (s := _) (bnd (ixO_of hi) (bnd hg (bnd ha (cnd_t rfl (bnd (app_of (by simp only [List.length_cons,List.length_nil]; omega) (by simp only [List.length_cons,List.length_nil]; omega)) rfl))))) (bnd (congrArg some hw) rfl)
  ·have hf : [p].filter (fun p => atpB p d) = [] := by simp [hb]
   rw [hf,List.append_nil]
   rw [Bool.not_eq_true] at hb
   rw [hb] at ha
   exact bndL (s := _) (bnd (ixO_of hi) (bnd hg (bnd ha (cnd_f rfl rfl)))) (bnd (congrArg some hw) rfl)
 ·rw [List.take_length]
  exact cnd_f (decide_eq_false (by omega)) rfl
theorem two_ways {A : Type} {p q : A → Bool} (h : ∀ x,p x = true → q x = false) : ∀ l : List A,l.countP (fun x => p x || q x) = (l.filter p).length + (l.filter q).length
 | [] => rfl
 | x :: l => by
  have ih := two_ways h l
  rw [List.countP_cons,ih]
  by_cases hp : p x = true
  ·have hq := h x hp
   rw [List.filter_cons_of_pos hp,List.filter_cons_of_neg (by rw [hq]; decide),hp]
   simp only [List.length_cons,Bool.true_or,if_true]; omega
  ·by_cases hq : q x = true
   ·rw [List.filter_cons_of_neg hp,List.filter_cons_of_pos hq,hq]
    simp only [List.length_cons,Bool.or_true,if_true]; omega
   ·rw [List.filter_cons_of_neg hp,List.filter_cons_of_neg hq]
    rw [Bool.not_eq_true] at hp hq
    rw [hp,hq]; simp
theorem tallyFar_true (c : T_Config) (m : T_Mail) (i : Int) (h0 : T_Config.wz c) (h1 : T_Mail.wz m) : wherrylaw26_TallyFar c m i = some true := by
 unfold wherrylaw26_TallyFar
 obtain ⟨⟨hl2,hds⟩,_,hU,hS,_,_⟩ := h0
 obtain ⟨a,b,hab⟩ : ∃ a b,c.Domains = [a,b] := by
  match hq : c.Domains,hl2 with
  | [a,b],_ => exact ⟨a,b,rfl⟩
 have ga : c.Domains.getD 0 (⟨#[]⟩ : ByteArray) = a := by rw [hab]; rfl
 have gb : c.Domains.getD 1 (⟨#[]⟩ : ByteArray) = b := by rw [hab]; rfl
 rw [ga,gb]
 have za := hds a (by rw [hab]; simp)
 have zb := hds b (by rw [hab]; simp)
 simp only [wzS,reachBytes] at za zb hU hS
 have hm := (wz_mail h1).1
 have hh1 := hcfg a b c.User c.Secret c.Expiry c.Log c.Held (by omega) (by omega) (by omega) (by omega)
 by_cases c1 : 2000 < a.size + b.size + c.User.size + c.Secret.size
 ·rw [decide_eq_true c1] at hh1
  exact bndL (s := true) (bnd hh1 (cnd_t rfl rfl)) rfl
 rw [decide_eq_false c1] at hh1
 obtain ⟨hv,hh2,hlm⟩ := heavy17 [m] (fun x hx => by rw [List.mem_singleton.1 hx]; exact hm)
 have hh2' : wherrylaw17_Heavy [(T_Mail.mk (T_Path.mk m.From.Null m.From.Local m.From.Domain) m.To m.Body m.Quiet m.Helo m.At)] = some hv := hh2
 cases hv with
 | true => exact bndL (s := true) (bnd hh1 (cnd_f rfl (bnd hh2' (cnd_t rfl rfl)))) rfl
 | false =>
 obtain ⟨_,hlm⟩ := hlm rfl
 have hto := (hlm m List.mem_cons_self).1
 obtain ⟨v,hc,hne⟩ := cfg23 a b c.User c.Secret c.Expiry c.Log c.Held (by omega) (by omega) (by omega) (by omega)
 cases v with
 | false => exact bndL (s := true) (bnd hh1 (cnd_f rfl (bnd hh2' (cnd_f rfl (bnd hc rfl))))) rfl
 | true =>
 have hne := hne rfl
 have ea := eat_eq (m := m) (d := a) (by omega) hto hm
 have eb := eat_eq (m := m) (d := b) (by omega) hto hm
 have hex : ∀ p : T_Path,atpB p a = true → atpB p b = false := by
  intro p hp
  unfold atpB at hp ⊢
  rw [Bool.and_eq_true,Bool.and_eq_true,decide_eq_true_eq] at hp
  rw [hp.2.2,decide_eq_false hne,Bool.and_false,Bool.and_false]
 have far0 : tally_Far (T_Config.mk ([a,b] : List ByteArray) c.Expiry c.User c.Secret c.Log c.Held) 0 (T_Mail.mk (T_Path.mk m.From.Null m.From.Local m.From.Domain) m.To m.Body m.Quiet m.Helo m.At) = some (m.To.filter fun p => atpB p b) := by
  unfold tally_Far
  exact bndL (s := false) rfl (cnd_f rfl (bnd (show some (IntKind.i64.wrap (1 - 0)) = some ((1 : Nat) : Int) by decide) (bnd (ixO_of (show 1 < 2 by omega)) (bnd rfl (bnd eb rfl)))))
 have far1 : tally_Far (T_Config.mk ([a,b] : List ByteArray) c.Expiry c.User c.Secret c.Log c.Held) 1 (T_Mail.mk (T_Path.mk m.From.Null m.From.Local m.From.Domain) m.To m.Body m.Quiet m.Helo m.At) = some (m.To.filter fun p => atpB p a) := by
  unfold tally_Far
  exact bndL (s := false) rfl (cnd_f rfl (bnd (show some (IntKind.i64.wrap (1 - 1)) = some ((0 : Nat) : Int) by decide) (bnd (ixO_of (show 0 < 2 by omega)) (bnd rfl (bnd ea rfl)))))
 have farx : i < 0 ∨ 1 < i → tally_Far (T_Config.mk ([a,b] : List ByteArray) c.Expiry c.User c.Secret c.Log c.Held) i (T_Mail.mk (T_Path.mk m.From.Null m.From.Local m.From.Domain) m.To m.Body m.Quiet m.Helo m.At) = some [] := by
  intro hi
  unfold tally_Far
  exact bndL (s := true) (cnd_t (bne_iff_ne.2 (by omega)) (inlF (bne_iff_ne.2 (by omega)))) rfl
 have hsz : ∀ p ∈ m.To,p.Domain.size < 140737488355328 := fun p hp => (hm.2.2.2.2.2 p hp).2
 have hcnt := two_ways hex m.To
 have hca := List.countP_le_length (p := fun p => atpB p a || atpB p b) (l := m.To)
 have hma : ∀ p ∈ m.To.filter (fun p => atpB p a),p ∈ m.To ∧ atpB p a = true := fun p hp => List.mem_filter.1 hp
 have hmb : ∀ p ∈ m.To.filter (fun p => atpB p b),p ∈ m.To ∧ atpB p b = true := fun p hp => List.mem_filter.1 hp
 refine bndL (s := false) (bnd hh1 (cnd_f rfl (bnd hh2' (cnd_f rfl (bnd hc rfl))))) (cnd_f rfl (bnd far0 (bnd far1 ?_)))
 generalize m.To.filter (fun p => atpB p b) = lb at hmb hcnt
 generalize m.To.filter (fun p => atpB p a) = la at hma hcnt
 refine bndL (s := ((m.To.countP (fun p => atpB p a || atpB p b) : Nat) : Int)) (loop_from (fun i => ((((m.To.take i).countP (fun p => atpB p a || atpB p b) : Nat) : Int),((i : Nat) : Int))) m.To.length BIG rfl (by simp only [BIG]; omega) (fun i hi => ?_) ?_) ?_
 ·have hg := getO_of hi
  have ht := take_one hi
  have hp := hsz _ (List.getElem_mem hi)
  have hb := List.countP_le_length (p := fun p => atpB p a || atpB p b) (l := m.To.take i)
  rw [List.length_take] at hb
  rw [ht,List.countP_append,List.countP_singleton]
  generalize m.To[i] = p at hg hp
  generalize (m.To.take i).countP (fun p => atpB p a || atpB p b) = k at hb
  have ra := rat_eq p a hp (by omega)
  have rb := rat_eq p b hp (by omega)
  have hw : IntKind.i64.wrap ((i : Int) + 1) = ((i + 1 : Nat) : Int) := wrap_succ (by omega)
  have hwk : IntKind.i64.wrap ((k : Int) + 1) = ((k + 1 : Nat) : Int) := wrap_succ (by omega)
  refine cnd_t (decide_eq_true (by omega)) ?_
  by_cases q1 : atpB p a = true
  ·rw [q1] at ra
   rw [q1,Bool.true_or,if_pos rfl]
   exact bndL (s := ((k + 1 : Nat) : Int)) (bndL (s := true) (bnd (ixO_of hi) (bnd hg (bnd ra (cnd_t rfl rfl)))) (cnd_t rfl (bnd (congrArg some hwk) rfl))) (bnd (congrArg some hw) rfl)
  ·rw [Bool.not_eq_true] at q1
   rw [q1] at ra
   rw [q1,Bool.false_or]
   by_cases q2 : atpB p b = true
   ·rw [q2] at rb
    rw [q2,if_pos rfl]
    exact bndL (s := ((k + 1 : Nat) : Int)) (bndL (s := true) (bnd (ixO_of hi) (bnd hg (bnd ra (cnd_f rfl (bnd (ixO_of hi) (bnd hg (bnd rb rfl))))))) (cnd_t rfl (bnd (congrArg some hwk) rfl))) (bnd (congrArg some hw) rfl)
   ·rw [Bool.not_eq_true] at q2
    rw [q2] at rb
    rw [q2]
    exact bndL (s := (k : Int)) (bndL (s := false) (bnd (ixO_of hi) (bnd hg (bnd ra (cnd_f rfl (bnd (ixO_of hi) (bnd hg (bnd rb rfl))))))) (cnd_f rfl rfl)) (bnd (congrArg some hw) rfl)
 ·rw [List.take_length]
  exact cnd_f (decide_eq_false (by omega)) rfl
 have hadd : some (IntKind.i64.wrap ((lb.length : Int) + (la.length : Int))) = some ((lb.length + la.length : Nat) : Int) := wadd23 (by omega)
 have hsum : (((lb.length + la.length : Nat) : Int) != ((m.To.countP (fun p => atpB p a || atpB p b) : Nat) : Int)) = false := by
  have : lb.length + la.length = m.To.countP (fun p => atpB p a || atpB p b) := by omega
  rw [this]; exact bne_self_eq_false _
 refine bndL (s := false) (bnd hadd (cnd_f hsum ?_)) (cnd_f rfl ?_)
 ·by_cases i1 : i < 0
  ·exact cnd_t (decide_eq_true i1) (bnd (farx (.inl i1)) rfl)
  ·by_cases i2 : 1 < i
   ·exact cnd_f (decide_eq_false i1) (cnd_t (decide_eq_true i2) (bnd (farx (.inr i2)) rfl))
   ·exact cnd_f (decide_eq_false i1) (cnd_f (decide_eq_false i2) rfl)
 refine bndL (s := ()) (loop_from (fun i => ((i : Nat) : Int)) lb.length BIG rfl (by simp only [BIG]; omega) (fun i hi => ?_) (cnd_f (decide_eq_false (by omega)) rfl)) (bndL (s := ()) (loop_from (fun i => ((i : Nat) : Int)) la.length BIG rfl (by simp only [BIG]; omega) (fun i hi => ?_) (cnd_f (decide_eq_false (by omega)) rfl)) (bnd wakes26 rfl))
 ·obtain ⟨hp,hq⟩ := hmb _ (List.getElem_mem hi)
  have hr := rat_eq lb[i] b (hsz _ hp) (by omega)
  rw [hq] at hr
  exact cnd_t (decide_eq_true (by omega)) (bnd (ixO_of hi) (bnd (getO_of hi) (bnd hr (cnd_f rfl (bnd (congrArg some (wrap_succ (n := i) (by omega))) rfl)))))
 ·obtain ⟨hp,hq⟩ := hma _ (List.getElem_mem hi)
  have hr := rat_eq la[i] a (hsz _ hp) (by omega)
  rw [hq] at hr
  exact cnd_t (decide_eq_true (by omega)) (bnd (ixO_of hi) (bnd (getO_of hi) (bnd hr (cnd_f rfl (bnd (congrArg some (wrap_succ (n := i) (by omega))) rfl)))))
end Go.Abs.Sh
