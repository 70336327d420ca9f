import Derived.Test.YtofbofdggabfiaaDoorTalG
import Derived.KernelRfl
namespace Go.Abs.Sh
set_option linter.unusedVariables false
set_option linter.unusedSimpArgs false
set_option maxRecDepth 10000
def tbS (s : T_Spool) : ((Int × Int)) → Option ((Int × Int) ⊕ ((Int) ⊕ Int)) := (fun ((s29,s30) : Int × Int) =>
 cond ((decide (s30 < (s.Items.length : Int))))
  (bindS (S := Int) (A := ((Int × Int) ⊕ ((Int) ⊕ Int)))
   ((ixO s30 s.Items.length).bind fun v2 =>
   (getO s.Items v2).bind fun v3 =>
   (tally_waits ((T_Item.mk v3.Id ((T_Mail.mk (T_Path.mk v3.Mail.From.Null v3.Mail.From.Local v3.Mail.From.Domain) v3.Mail.To v3.Mail.Body v3.Mail.Quiet v3.Mail.Helo v3.Mail.At)) v3.State v3.Pack))).bind fun v4 =>
   cond (v4)
    ((some (IntKind.i64.wrap ((v3.Mail.Body.length : Int) + 48))).bind fun v6 =>
    (some (IntKind.i64.wrap (v6 - 1))).bind fun v7 =>
    (quoO .i64 v7 48).bind fun v8 =>
    (some (IntKind.i64.wrap (2 * v8))).bind fun v9 =>
    (some (IntKind.i64.wrap (40 + v9))).bind fun v10 =>
    (some (IntKind.i64.wrap (8 * (v3.Mail.To.length : Int)))).bind fun v11 =>
    (some (IntKind.i64.wrap (v10 + v11))).bind fun v12 =>
    (some (IntKind.i64.wrap (s29 + v12))).bind fun v13 =>
    some (.inl v13))
    (some (.inl s29)))
   (fun (s47 : Int) =>
    (some (IntKind.i64.wrap (s30 + 1))).bind fun v19 =>
    some (.inl (s47,v19))) some)
  (some (.inr (.inl s29))))
def twS (s : T_Spool) : ((Int × Int)) → Option ((Int × Int) ⊕ ((Int) ⊕ Int)) := (fun ((s22,s23) : Int × Int) =>
 cond ((decide (s23 < (s.Items.length : Int))))
  (bindS (S := Int) (A := ((Int × Int) ⊕ ((Int) ⊕ Int)))
   ((ixO s23 s.Items.length).bind fun v2 =>
   (getO s.Items v2).bind fun v3 =>
   (tally_waits ((T_Item.mk v3.Id ((T_Mail.mk (T_Path.mk v3.Mail.From.Null v3.Mail.From.Local v3.Mail.From.Domain) v3.Mail.To v3.Mail.Body v3.Mail.Quiet v3.Mail.Helo v3.Mail.At)) v3.State v3.Pack))).bind fun v4 =>
   cond (v4)
    ((some (IntKind.i64.wrap (s22 + 1))).bind fun v6 =>
    some (.inl v6))
    (some (.inl s22)))
   (fun (s40 : Int) =>
    (some (IntKind.i64.wrap (s23 + 1))).bind fun v12 =>
    some (.inl (s40,v12))) some)
  (some (.inr (.inl s22))))
theorem wakes26 : wherrylaw26_wakes = some true := by kernel_rfl
theorem inlH {A : Type} {a b : Bool} (h : a = b) : (some (.inl a) : Option (Bool ⊕ A)) = some (.inl b) := by rw [h]
theorem take_one {A : Type} {l : List A} {i : Nat} (h : i < l.length) : l.take (i + 1) = l.take i ++ [l[i]] := by
 rw [List.take_add_one,List.getElem?_eq_getElem h]; rfl
def wfn (x : T_Item) : Bool := (x.State == 1) || (x.State == 2)
def bw (x : T_Item) : Nat := if wfn x = true then 40 + 2 * ((x.Mail.Body.length + 47) / 48) + 8 * x.Mail.To.length else 0
def bwS (l : List T_Item) : Nat := (l.map bw).sum
def cnt (l : List T_Item) : Nat := l.countP wfn
theorem bwS_app (a b : List T_Item) : bwS (a ++ b) = bwS a + bwS b := by simp [bwS]
theorem waits_eq (x : T_Item) : tally_waits x = some (wfn x) := by
 unfold tally_waits wfn
 by_cases h : x.State = 1
 ·exact bndL (s := true) (cnd_t (beq_iff_eq.2 h) rfl) (by rw [h]; rfl)
 ·refine bndL (s := (x.State == 2)) (cnd_f (beq_eq_false_iff_ne.2 h) rfl) (by rw [beq_eq_false_iff_ne.2 h]; rfl)
theorem bw_le {x : T_Item} (h : LM x.Mail) : bw x ≤ 2000 := by
 have h1 := mW_len h
 have h2 := h.1
 unfold bw; split <;> omega
theorem bwS_le {l : List T_Item} (h : ∀ x ∈ l,LM x.Mail) : bwS l ≤ 2000 * l.length := by
 induction l with
 | nil => exact Nat.le_refl _
 | cons x l ih =>
  have := ih fun y hy => h y (List.mem_cons_of_mem _ hy)
  have := bw_le (h x List.mem_cons_self)
  simp only [bwS,List.map_cons,List.sum_cons,List.length_cons] at *
  omega
theorem bound_eq {s : T_Spool} (hn : s.Items.length ≤ 1000000) (hl : ∀ x ∈ s.Items,LM x.Mail) : tally_Bound s = some ((40 + bwS s.Items : Nat) : Int) := by
 unfold tally_Bound
 have hle := bwS_le hl
 refine bndL (s := ((40 + bwS s.Items : Nat) : Int)) (loop_from (f := tbS s) (fun i => (((40 + bwS (s.Items.take i) : Nat) : Int),((i : Nat) : Int))) s.Items.length BIG rfl (by simp only [BIG]; omega) (fun i hi => ?_) ?_) rfl
 ·have hg := getO_of hi
  have ht := take_one hi
  have hx := hl _ (List.getElem_mem hi)
  have hb : bwS (s.Items.take i) ≤ bwS s.Items := by
   have := bwS_app (s.Items.take i) (s.Items.drop i)
   rw [List.take_append_drop] at this
   omega
  have hs : bwS (s.Items.take (i + 1)) = bwS (s.Items.take i) + bw s.Items[i] := by rw [ht,bwS_app]; simp [bwS]
  rw [hs]
  generalize bwS (s.Items.take i) = B at hb
  generalize s.Items[i] = x at hg hx
  have h1 := mW_len hx
  have h2 := hx.1
  have hw : IntKind.i64.wrap ((i : Int) + 1) = ((i + 1 : Nat) : Int) := wrap_succ (by omega)
  refine cnd_t (decide_eq_true (by omega)) ?_
  by_cases hwf : wfn x = true
  ·have hbw : bw x = 40 + 2 * ((x.Mail.Body.length + 47) / 48) + 8 * x.Mail.To.length := by unfold bw; rw [if_pos hwf]
   have hwt : tally_waits x = some true := by rw [waits_eq,hwf]
   have w1 : IntKind.i64.wrap ((x.Mail.Body.length : Int) + 48) = ((x.Mail.Body.length + 48 : Nat) : Int) := by rw [wrap_i64 (by omega) (by omega)]; simp
   have w2 : IntKind.i64.wrap (((x.Mail.Body.length + 48 : Nat) : Int) - 1) = ((x.Mail.Body.length + 47 : Nat) : Int) := by rw [wrap_i64 (by omega) (by omega)]; omega
   have w3 : quoO .i64 ((x.Mail.Body.length + 47 : Nat) : Int) 48 = some (((x.Mail.Body.length + 47) / 48 : Nat) : Int) := quo_nat _ 48 (by omega) (by omega)
   generalize hq : (x.Mail.Body.length + 47) / 48 = q at hbw w3
   have hq2 : q ≤ 1000 := by omega
   have w4 : IntKind.i64.wrap (2 * (q : Int)) = ((2 * q : Nat) : Int) := by rw [wrap_i64 (by omega) (by omega)]; omega
   have w5 : IntKind.i64.wrap (40 + ((2 * q : Nat) : Int)) = ((40 + 2 * q : Nat) : Int) := by rw [wrap_i64 (by omega) (by omega)]; omega
   have w6 : IntKind.i64.wrap (8 * (x.Mail.To.length : Int)) = ((8 * x.Mail.To.length : Nat) : Int) := by rw [wrap_i64 (by omega) (by omega)]; omega
   have w7 : IntKind.i64.wrap (((40 + 2 * q : Nat) : Int) + ((8 * x.Mail.To.length : Nat) : Int)) = ((40 + 2 * q + 8 * x.Mail.To.length : Nat) : Int) := by rw [wrap_i64 (by omega) (by omega)]; omega
   have w8 : IntKind.i64.wrap (((40 + B : Nat) : Int) + ((40 + 2 * q + 8 * x.Mail.To.length : Nat) : Int)) = ((40 + (B + bw x) : Nat) : Int) := by rw [wrap_i64 (by omega) (by omega)]; omega
   exact bndL (s := ((40 + (B + bw x) : Nat) : Int)) (bnd (ixO_of hi) (bnd hg (bnd hwt (cnd_t rfl (bnd (congrArg some w1) (bnd (congrArg some w2) (bnd w3 (bnd (congrArg some w4) (bnd (congrArg some w5) (bnd (congrArg some w6) (bnd (congrArg some w7) (bnd (congrArg some w8) rfl)))))))))))) (bnd (congrArg some hw) rfl)
  ·have hbw : bw x = 0 := by unfold bw; rw [if_neg hwf]
   rw [Bool.not_eq_true] at hwf
   have hwt : tally_waits x = some false := by rw [waits_eq,hwf]
   rw [hbw]
   exact bndL (s := ((40 + B : Nat) : Int)) (bnd (ixO_of hi) (bnd hg (bnd hwt (cnd_f rfl rfl)))) (bnd (congrArg some hw) rfl)
 ·rw [List.take_length]
  exact cnd_f (decide_eq_false (by omega)) rfl
theorem count_eq {s : T_Spool} (hn : s.Items.length ≤ 1000000) : tally_Waits s = some ((cnt s.Items : Nat) : Int) := by
 unfold tally_Waits cnt
 refine bndL (s := ((s.Items.countP wfn : Nat) : Int)) (loop_from (f := twS s) (fun i => ((((s.Items.take i).countP wfn : Nat) : Int),((i : Nat) : Int))) s.Items.length BIG rfl (by simp only [BIG]; omega) (fun i hi => ?_) ?_) rfl
 ·have hg := getO_of hi
  have ht := take_one hi
  have hb := List.countP_le_length (p := wfn) (l := s.Items.take i)
  rw [List.length_take] at hb
  rw [ht,List.countP_append,List.countP_singleton]
  generalize (s.Items.take i).countP wfn = B at hb
  generalize s.Items[i] = x at hg
  have hwt := waits_eq x
  have hw : IntKind.i64.wrap ((i : Int) + 1) = ((i + 1 : Nat) : Int) := wrap_succ (by omega)
  have hwb : IntKind.i64.wrap ((B : Int) + 1) = ((B + 1 : Nat) : Int) := wrap_succ (by omega)
  refine cnd_t (decide_eq_true (by omega)) ?_
  by_cases hwf : wfn x = true
  ·rw [hwf] at hwt
   rw [hwf,if_pos rfl]
   exact bndL (s := ((B + 1 : Nat) : Int)) (bnd (ixO_of hi) (bnd hg (bnd hwt (cnd_t rfl (bnd (congrArg some hwb) rfl))))) (bnd (congrArg some hw) rfl)
  ·rw [Bool.not_eq_true] at hwf
   rw [hwf] at hwt
   rw [hwf]
   exact bndL (s := (B : Int)) (bnd (ixO_of hi) (bnd hg (bnd hwt (cnd_f rfl rfl)))) (bnd (congrArg some hw) rfl)
 ·rw [List.take_length]
  exact cnd_f (decide_eq_false (by omega)) rfl
/-! What a record does to them. -/
theorem bw_pos {x : T_Item} (h : wfn x = true) : 40 ≤ bw x := by unfold bw; rw [if_pos h]; omega
theorem bw_not {x : T_Item} (h : wfn x = false) : bw x = 0 := by unfold bw; rw [if_neg (by rw [h]; decide)]
theorem bw_same {x y : T_Item} (hm : y.Mail = x.Mail) (h : wfn y = wfn x) : bw y = bw x := by unfold bw; rw [hm,h]
theorem low26 (l : List T_Item) : 40 * cnt l ≤ bwS l := by
 induction l with
 | nil => exact Nat.le_refl _
 | cons x l ih =>
  simp only [cnt,bwS,List.map_cons,List.sum_cons,List.countP_cons] at *
  by_cases h : wfn x = true
  ·have := bw_pos h; rw [h]; simp; omega
  ·rw [if_neg h]; omega
theorem map26 {f : T_Item → T_Item} (hm : ∀ x,(f x).Mail = x.Mail) {l : List T_Item} (h : ∀ x ∈ l,wfn (f x) = true → wfn x = true) :
  cnt (l.map f) ≤ cnt l ∧ bwS (l.map f) + 40 * (cnt l - cnt (l.map f)) ≤ bwS l ∧ (cnt (l.map f) = cnt l → bwS (l.map f) = bwS l) := by
 induction l with
 | nil => exact ⟨Nat.le_refl _,Nat.le_refl _,fun _ => rfl⟩
 | cons x l ih =>
  obtain ⟨i1,i2,i3⟩ := ih fun y hy => h y (List.mem_cons_of_mem _ hy)
  have hx := h x List.mem_cons_self
  simp only [cnt,bwS,List.map_cons,List.sum_cons,List.countP_cons] at *
  by_cases h1 : wfn (f x) = true
  ·have h2 := hx h1
   have := bw_same (hm x) (h1.trans h2.symm)
   rw [if_pos h1,if_pos h2]
   refine ⟨by omega,by omega,fun e => ?_⟩
   rw [this,i3 (by omega)]
  ·by_cases h2 : wfn x = true
   ·have := bw_pos h2
    rw [Bool.not_eq_true] at h1
    have := bw_not h1
    rw [if_neg (by rw [h1]; decide),if_pos h2]
    refine ⟨by omega,by omega,fun e => ?_⟩
    omega
   ·rw [Bool.not_eq_true] at h1 h2
    have e1 := bw_not h1
    have e2 := bw_not h2
    rw [if_neg (by rw [h1]; decide),if_neg (by rw [h2]; decide)]
    refine ⟨by omega,by omega,fun e => ?_⟩
    rw [e1,e2,i3 (by omega)]
theorem same26 {f : T_Item → T_Item} (hm : ∀ x,(f x).Mail = x.Mail) {l : List T_Item} (h : ∀ x ∈ l,wfn (f x) = wfn x) : cnt (l.map f) = cnt l ∧ bwS (l.map f) = bwS l := by
 induction l with
 | nil => exact ⟨rfl,rfl⟩
 | cons x l ih =>
  obtain ⟨i1,i2⟩ := ih fun y hy => h y (List.mem_cons_of_mem _ hy)
  have hx := h x List.mem_cons_self
  have := bw_same (hm x) hx
  simp only [cnt,bwS,List.map_cons,List.sum_cons,List.countP_cons] at *
  rw [hx,this,i1,i2]
  exact ⟨rfl,rfl⟩
theorem stt_fold : ∀ (l : List T_Rec) (s : T_Spool) (i : Nat),i + l.length < 1000000 → (∀ r ∈ l,Rok r) → Inv i s → (∀ x ∈ s.Items,Stt x) → ∀ x ∈ (foldS s l).1.Items,Stt x
 | [],s,i,_,_,_,ht => ht
 | r :: l,s,i,hl,hr,hs,ht => by
  simp only [foldS]
  simp only [List.length_cons] at hl
  split
  ·rename_i ho
   exact stt_fold l (eff s r) (i + 1) (by omega) (fun x hx => hr x (List.mem_cons_of_mem _ hx)) (inv_eff (by omega) hs (hr r List.mem_cons_self) ho) (next_eff hs ht ho).stt
  ·exact ht
theorem foldS_le26 : ∀ (l : List T_Rec) (s : T_Spool),(foldS s l).2 ≤ l.length
 | [],s => Nat.le_refl _
 | r :: l,s => by
  simp only [foldS]
  split
  ·have := foldS_le26 l (eff s r)
   simp only [List.length_cons]; omega
  ·exact Nat.zero_le _
theorem heavyP {r : T_Rec} (h : T_Rec.wz r) : ∃ b,wherrylaw18_Heavy [r] = some b ∧ (b = false → Rok r) := by
 obtain ⟨b,hb,h2⟩ := heavy18 [r] (fun x hx => by rw [List.mem_singleton.1 hx]; exact re_of h) (by simp only [List.length_cons,List.length_nil]; omega)
 exact ⟨b,hb,fun e => rok_of h ((h2 e).2 r List.mem_cons_self)⟩
theorem tallyBounds_true (recs : List T_Rec) (p_r : T_Rec) (h0 : wzL 208 T_Rec.wz recs) (h1 : T_Rec.wz p_r) : wherrylaw26_TallyBounds recs p_r = some true := by
 unfold wherrylaw26_TallyBounds
 obtain ⟨b1,e1,k1⟩ := heavy_rok recs h0
 cases b1 with
 | true => exact bndL (s := true) (bnd e1 (cnd_t rfl rfl)) rfl
 | false =>
 obtain ⟨hl,hr⟩ := k1 rfl
 obtain ⟨b2,e2,k2⟩ := heavyP h1
 have e2' : wherrylaw18_Heavy [(T_Rec.mk p_r.Kind ((T_Mail.mk (T_Path.mk p_r.Mail.From.Null p_r.Mail.From.Local p_r.Mail.From.Domain) p_r.Mail.To p_r.Mail.Body p_r.Mail.Quiet p_r.Mail.Helo p_r.Mail.At)) p_r.Id p_r.Ids p_r.Origin p_r.Number p_r.Offset p_r.Data)] = some b2 := e2
 cases b2 with
 | true => exact bndL (s := true) (bnd e1 (cnd_f rfl (bnd e2' rfl))) rfl
 | false =>
 have hp := k2 rfl
 have hf := rfold_eq recs hr (by omega)
 have hfl := foldS_le26 recs newSp
 have hi := foldS_inv recs newSp 0 (by omega) hr inv_new
 have hst := stt_fold recs newSp 0 (by omega) hr inv_new (by intro x hx; cases hx)
 rw [Nat.zero_add] at hi
 generalize (foldS newSp recs).2 = n at hf hfl hi
 generalize (foldS newSp recs).1 = s at hf hi hst
 have ha : wherryref18_Add s (T_Rec.mk p_r.Kind ((T_Mail.mk (T_Path.mk p_r.Mail.From.Null p_r.Mail.From.Local p_r.Mail.From.Domain) p_r.Mail.To p_r.Mail.Body p_r.Mail.Quiet p_r.Mail.Helo p_r.Mail.At)) p_r.Id p_r.Ids p_r.Origin p_r.Number p_r.Offset p_r.Data) = _ := radd_eq (r := p_r) hi hst hp
 have hlen := hi.len
 have hb := bound_eq (s := s) (by omega) hi.lm
 have hw := count_eq (s := s) (by omega)
 have hlow := low26 s.Items
 have hcl := List.countP_le_length (p := wfn) (l := s.Items)
 have hbl := bwS_le hi.lm
 have w1 : IntKind.i64.wrap (40 * ((cnt s.Items : Nat) : Int)) = ((40 * cnt s.Items : Nat) : Int) := by rw [wrap_i64 (by unfold cnt; omega) (by unfold cnt; omega)]; omega
 have w2 : IntKind.i64.wrap (40 + ((40 * cnt s.Items : Nat) : Int)) = ((40 + 40 * cnt s.Items : Nat) : Int) := by rw [wrap_i64 (by unfold cnt; omega) (by unfold cnt; omega)]; omega
 have hcl' : cnt s.Items ≤ s.Items.length := hcl
 refine bndL (s := false) (bnd e1 (cnd_f rfl (bnd e2' rfl))) (cnd_f rfl (bnd hf (bnd ha (bnd hb (bnd hw (bndL (s := false) (bnd (congrArg some w1) (bnd (congrArg some w2) (cnd_f (decide_eq_false (by omega)) (cnd_f (decide_eq_false (by omega)) (inlH (decide_eq_false (by show ¬ (s.Items.length : Int) < _; omega))))))) (cnd_f rfl ?_)))))))
 by_cases ho : okR s p_r = true
 case neg => rw [if_neg ho]; exact cnd_t rfl (bnd wakes26 rfl)
 rw [if_pos ho]
 have hok : okS s p_r = true := ho
 have hi2 := inv_eff (by omega) hi hp hok
 have hlen2 := hi2.len
 have hb2 := bound_eq (s := eff s p_r) (by omega) hi2.lm
 have hw2 := count_eq (s := eff s p_r) (by omega)
 have hcl2 : cnt (eff s p_r).Items ≤ (eff s p_r).Items.length := List.countP_le_length
 have hbl2 := bwS_le hi2.lm
 refine cnd_f rfl (bnd hb2 (bnd hw2 ?_))
 have fin : ∀ {X : Bool},X = true → ((wherrylaw26_wakes).bind fun v => some (Sum.inl v) : Option (Bool ⊕ Bool)) = some (.inl X) := fun h => by subst h; exact bnd wakes26 rfl
 have plain : p_r.Kind ≠ 1 → p_r.Kind ≠ 4 → p_r.Kind ≠ 3 → cnt (eff s p_r).Items = cnt s.Items → bwS (eff s p_r).Items = bwS s.Items → cond (p_r.Kind == 1)
         (bindS (S := Bool) (A := Bool)
          ((some (IntKind.i64.wrap (((cnt (eff s p_r).Items : Nat) : Int) - ((cnt s.Items : Nat) : Int)))).bind fun v24 =>
          cond ((v24 == p_r.Origin))
           ((some (((decide (((40 + bwS s.Items : Nat) : Int) < ((40 + bwS (eff s p_r).Items : Nat) : Int)))) == (p_r.Origin == 1))).bind fun v25 =>
           cond ((((decide (((40 + bwS s.Items : Nat) : Int) < ((40 + bwS (eff s p_r).Items : Nat) : Int)))) == (p_r.Origin == 1)))
            (cond ((decide (((40 + bwS s.Items : Nat) : Int) ≤ ((40 + bwS (eff s p_r).Items : Nat) : Int))))
             ((wherrylaw26_wakes ).bind fun v26 =>
             some (.inl v26))
             (some (.inl false)))
            (some (.inl false)))
           (some (.inl false)))
          (fun (s27 : Bool) =>
           some (s27)) some)
         (cond ((p_r.Kind == 4))
          (bindS (S := Bool) (A := Bool)
           ((some (IntKind.i64.wrap (((cnt s.Items : Nat) : Int) - 1))).bind fun v32 =>
           cond ((((cnt (eff s p_r).Items : Nat) : Int) == v32))
            (cond ((decide (((40 + bwS (eff s p_r).Items : Nat) : Int) < ((40 + bwS s.Items : Nat) : Int))))
             ((wherrylaw26_wakes ).bind fun v33 =>
             some (.inl v33))
             (some (.inl false)))
            (some (.inl false)))
           (fun (s34 : Bool) =>
            some (s34)) some)
          (cond ((p_r.Kind == 3))
           (bindS (S := Bool) (A := Bool)
            (cond ((decide (((cnt (eff s p_r).Items : Nat) : Int) ≤ ((cnt s.Items : Nat) : Int))))
             (cond ((decide (((40 + bwS (eff s p_r).Items : Nat) : Int) ≤ ((40 + bwS s.Items : Nat) : Int))))
              ((some (((decide (((cnt (eff s p_r).Items : Nat) : Int) < ((cnt s.Items : Nat) : Int)))) == ((decide (((40 + bwS (eff s p_r).Items : Nat) : Int) < ((40 + bwS s.Items : Nat) : Int)))))).bind fun v39 =>
              cond ((((decide (((cnt (eff s p_r).Items : Nat) : Int) < ((cnt s.Items : Nat) : Int)))) == ((decide (((40 + bwS (eff s p_r).Items : Nat) : Int) < ((40 + bwS s.Items : Nat) : Int))))))
               ((wherrylaw26_wakes ).bind fun v40 =>
               some (.inl v40))
               (some (.inl false)))
              (some (.inl false)))
             (some (.inl false)))
            (fun (s41 : Bool) =>
             some (s41)) some)
           (bindS (S := Bool) (A := Bool)
            (cond ((((cnt (eff s p_r).Items : Nat) : Int) == ((cnt s.Items : Nat) : Int)))
             (cond ((((40 + bwS (eff s p_r).Items : Nat) : Int) == ((40 + bwS s.Items : Nat) : Int)))
              ((wherrylaw26_wakes ).bind fun v45 =>
              some (.inl v45))
              (some (.inl false)))
             (some (.inl false)))
            (fun (s46 : Bool) =>
             some (s46)) some))) = some true := by
  intro n1 n4 n3 hc hbq
  exact cnd_f (beq_eq_false_iff_ne.2 n1) (cnd_f (beq_eq_false_iff_ne.2 n4) (cnd_f (beq_eq_false_iff_ne.2 n3) (bndL (s := true) (cnd_t (by rw [hc]; exact beq_self_eq_true _) (cnd_t (by rw [hbq]; exact beq_self_eq_true _) (fin rfl))) rfl)))
 rcases okS_ok hok with ⟨k,a,b,c⟩ | ⟨k,a,b⟩ | ⟨k,a,b,c⟩ | ⟨k,a⟩ | ⟨k,a,b⟩ | ⟨k,a⟩
 ·clear plain
  have hit : (eff s p_r).Items = s.Items ++ [⟨p_r.Id,p_r.Mail,if p_r.Origin = 0 then 3 else 1,0⟩] := by rw [eff1 k]
  have hcn : cnt (eff s p_r).Items = cnt s.Items + (if p_r.Origin = 0 then 0 else 1) := by
   rw [hit]
   simp only [cnt,List.countP_append,List.countP_singleton,wfn]
   rcases c with c | c <;> simp [c]
  have hbn : (p_r.Origin = 0 → bwS (eff s p_r).Items = bwS s.Items) ∧ (p_r.Origin = 1 → bwS s.Items < bwS (eff s p_r).Items) := by
   rw [hit,bwS_app]
   refine ⟨fun c => ?_,fun c => ?_⟩
   ·simp [bwS,bw,wfn,c]
   ·simp [bwS,bw,wfn,c]; omega
  refine cnd_t (beq_iff_eq.2 k) ?_
  rcases c with c | c
  ·rw [if_pos c] at hcn
   have hbe := hbn.1 c
   have w3 : IntKind.i64.wrap (((cnt (eff s p_r).Items : Nat) : Int) - ((cnt s.Items : Nat) : Int)) = 0 := by rw [hcn,wrap_i64 (by omega) (by omega)]; omega
   have hdec : ((decide (((40 + bwS s.Items : Nat) : Int) < ((40 + bwS (eff s p_r).Items : Nat) : Int))) == (p_r.Origin == 1)) = true := by
    rw [hbe,c,decide_eq_false (by omega)]; rfl
   exact bndL (s := true) (bnd (congrArg some w3) (cnd_t (by rw [c]; rfl) (bnd rfl (cnd_t hdec (cnd_t (decide_eq_true (by omega)) (fin rfl)))))) rfl
  ·rw [if_neg (by omega)] at hcn
   have hbe := hbn.2 c
   have w3 : IntKind.i64.wrap (((cnt (eff s p_r).Items : Nat) : Int) - ((cnt s.Items : Nat) : Int)) = 1 := by rw [hcn,wrap_i64 (by omega) (by omega)]; omega
   have hdec : ((decide (((40 + bwS s.Items : Nat) : Int) < ((40 + bwS (eff s p_r).Items : Nat) : Int))) == (p_r.Origin == 1)) = true := by
    rw [c,decide_eq_true (by omega)]; rfl
   exact bndL (s := true) (bnd (congrArg some w3) (cnd_t (by rw [c]; rfl) (bnd rfl (cnd_t hdec (cnd_t (decide_eq_true (by omega)) (fin rfl)))))) rfl
 ·have hit : (eff s p_r).Items = s.Items.map (f2 p_r.Ids p_r.Number) := by rw [eff2 k]
  have hs2 := same26 (f := f2 p_r.Ids p_r.Number) (fun x => (f2_id _ _ x).2) (l := s.Items) (fun x hx => by
   unfold f2
   split
   ·rename_i hm
    obtain ⟨j,hj,rfl⟩ := List.getElem_of_mem hx
    have := wt_item hi.ids hj (ids_wt b _ hm)
    simp [wfn,this]
   ·rfl)
  rw [← hit] at hs2
  exact plain (by omega) (by omega) (by omega) hs2.1 hs2.2
 ·clear plain
  have hit : (eff s p_r).Items = s.Items.map (f3 p_r.Number) := by rw [eff3 k]
  have hm3 := map26 (f := f3 p_r.Number) (fun x => (f3_id _ x).2) (l := s.Items) (fun x hx h => by
   unfold f3 at h
   split at h
   ·simp [wfn] at h
   ·exact h)
  rw [← hit] at hm3
  obtain ⟨m1,m2,m3⟩ := hm3
  have hdec : ((decide (((cnt (eff s p_r).Items : Nat) : Int) < ((cnt s.Items : Nat) : Int))) == (decide (((40 + bwS (eff s p_r).Items : Nat) : Int) < ((40 + bwS s.Items : Nat) : Int)))) = true := by
   by_cases h : cnt (eff s p_r).Items = cnt s.Items
   ·have := m3 h
    rw [decide_eq_false (by omega),decide_eq_false (by omega)]; rfl
   ·rw [decide_eq_true (by omega),decide_eq_true (by omega)]; rfl
  exact cnd_f (beq_eq_false_iff_ne.2 (by omega)) (cnd_f (beq_eq_false_iff_ne.2 (by omega)) (cnd_t (beq_iff_eq.2 k) (bndL (s := true) (cnd_t (decide_eq_true (by omega)) (cnd_t (decide_eq_true (by omega)) (bnd rfl (cnd_t hdec (fin rfl))))) rfl)))
 ·clear plain
  obtain ⟨j,hj,hid,hst1⟩ := wt_at a
  have hit : (eff s p_r).Items = s.Items.set j ⟨s.Items[j].Id,s.Items[j].Mail,4,s.Items[j].Pack⟩ := by rw [set4 hi.ids hj,← hid,eff4 k]
  have hspl : s.Items = s.Items.take j ++ s.Items[j] :: s.Items.drop (j + 1) := by
   rw [List.getElem_cons_drop,List.take_append_drop]
  have hset : (eff s p_r).Items = s.Items.take j ++ ⟨s.Items[j].Id,s.Items[j].Mail,4,s.Items[j].Pack⟩ :: s.Items.drop (j + 1) := by
   rw [hit,List.set_eq_take_append_cons_drop,if_pos hj]
  have hwj : wfn s.Items[j] = true := by simp [wfn,hst1]
  have hbj := bw_pos hwj
  have hc1 : cnt s.Items = cnt (s.Items.take j) + (cnt (s.Items.drop (j + 1)) + 1) := by
   have := congrArg cnt hspl
   rw [this]
   simp only [cnt,List.countP_append,List.countP_cons,hwj,if_true]
  have hc2 : cnt (eff s p_r).Items = cnt (s.Items.take j) + cnt (s.Items.drop (j + 1)) := by
   rw [hset]
   simp [cnt,List.countP_append,List.countP_cons,wfn]
  have hs1 : bwS s.Items = bwS (s.Items.take j) + (bw s.Items[j] + bwS (s.Items.drop (j + 1))) := by
   have := congrArg bwS hspl
   rw [this,bwS_app]
   simp only [bwS,List.map_cons,List.sum_cons]
  have hs2 : bwS (eff s p_r).Items = bwS (s.Items.take j) + bwS (s.Items.drop (j + 1)) := by
   rw [hset,bwS_app]
   simp [bwS,bw,wfn]
  have w3 : IntKind.i64.wrap (((cnt s.Items : Nat) : Int) - 1) = ((cnt (eff s p_r).Items : Nat) : Int) := by rw [wrap_i64 (by omega) (by omega)]; omega
  exact cnd_f (beq_eq_false_iff_ne.2 (by omega)) (cnd_t (beq_iff_eq.2 k) (bndL (s := true) (bnd (congrArg some w3) (cnd_t (beq_self_eq_true _) (cnd_t (decide_eq_true (by omega)) (fin rfl)))) rfl))
 ·have hit : (eff s p_r).Items = s.Items := by rw [eff5 k]
  exact plain (by omega) (by omega) (by omega) (by rw [hit]) (by rw [hit])
 ·have hit : (eff s p_r).Items = s.Items := by rw [eff6 k]
  exact plain (by omega) (by omega) (by omega) (by rw [hit]) (by rw [hit])
end Go.Abs.Sh
