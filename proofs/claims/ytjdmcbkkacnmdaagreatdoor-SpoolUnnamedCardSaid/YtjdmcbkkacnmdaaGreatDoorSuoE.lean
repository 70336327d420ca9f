import Derived.Test.YtjdmcbkkacnmdaaGreatDoorSuoD
namespace Go.Abs.Sh
set_option linter.unusedVariables false
set_option linter.unusedSimpArgs false
set_option maxRecDepth 10000
def opn (s : T_Spool) (n : Int) : Bool := decide (1 ≤ n ∧ n ≤ 65535) && !decide (n ∈ s.Done)
def ckB (s : T_Spool) (r : T_Rec) : Bool := decide (1 ≤ r.Data.length ∧ r.Data.length ≤ 48) && (decide (r.Offset = 0) || decide (s.Of = r.Number ∧ r.Offset = (s.Part.length : Int) ∧ s.Part.length + r.Data.length ≤ 5000))
def okS (s : T_Spool) (r : T_Rec) : Bool := er r && (
 if r.Kind = 1 then decide (s.Items.length < 60 ∧ r.Id = (s.Items.length : Int) + 1 ∧ (r.Origin = 0 ∨ r.Origin = 1)) && mv r.Mail
 else if r.Kind = 2 then decide (r.Number = s.Packs + 1) && idsB s r.Ids
 else if r.Kind = 3 then decide (1 ≤ r.Number ∧ r.Number ≤ s.Packs ∧ r.Number ∉ s.Sent)
 else if r.Kind = 4 then wt s r.Id
 else if r.Kind = 5 then opn s r.Number && ckB s r
 else if r.Kind = 6 then opn s r.Number
 else false)
def f2 (ids : List Int) (n : Int) (x : T_Item) : T_Item := if x.Id ∈ ids then ⟨x.Id,x.Mail,2,n⟩ else x
def f3 (n : Int) (x : T_Item) : T_Item := if x.Pack = n then ⟨x.Id,x.Mail,3,x.Pack⟩ else x
def f4 (n : Int) (x : T_Item) : T_Item := if x.Id = n then ⟨x.Id,x.Mail,4,x.Pack⟩ else x
def eff (s : T_Spool) (r : T_Rec) : T_Spool :=
 if r.Kind = 1 then ⟨s.Items ++ [⟨r.Id,r.Mail,if r.Origin = 0 then 3 else 1,0⟩],s.Packs,s.Sent,s.Part,s.Of,s.Done⟩
 else if r.Kind = 2 then ⟨s.Items.map (f2 r.Ids r.Number),r.Number,s.Sent,s.Part,s.Of,s.Done⟩
 else if r.Kind = 3 then ⟨s.Items.map (f3 r.Number),s.Packs,s.Sent ++ [r.Number],s.Part,s.Of,s.Done⟩
 else if r.Kind = 4 then ⟨s.Items.map (f4 r.Id),s.Packs,s.Sent,s.Part,s.Of,s.Done⟩
 else if r.Kind = 5 then ⟨s.Items,s.Packs,s.Sent,if r.Offset = 0 then r.Data else s.Part ++ r.Data,if r.Offset = 0 then r.Number else s.Of,s.Done⟩
 else ⟨s.Items,s.Packs,s.Sent,if s.Of = r.Number then [] else s.Part,if s.Of = r.Number then -1 else s.Of,insS s.Done r.Number⟩
def Rok (r : T_Rec) : Prop := LR r ∧ byt r.Mail.Body
structure Inv (n : Nat) (s : T_Spool) : Prop where
 hn : n < 1000000
 len : s.Items.length ≤ n
 ids : Ids s
 lm : ∀ x ∈ s.Items,LM x.Mail
 packs : 0 ≤ s.Packs ∧ s.Packs ≤ (n : Int)
 sent : s.Sent.length ≤ n
 part : s.Part.length ≤ 5000
 done : s.Done.length ≤ n
 srt : Srt s.Done
theorem open_eq {n : Nat} {s : T_Spool} (hs : Inv n s) (k : Int) : spool_open s k = some (opn s k) := by
 have := hs.hn; have := hs.done
 unfold spool_open opn
 by_cases h1 : 1 ≤ k
 ·by_cases h2 : k ≤ 65535
  ·rw [(decide_eq_true ⟨h1,h2⟩ : decide (1 ≤ k ∧ k ≤ 65535) = true),Bool.true_and]
   exact bndL (cnd_t (decide_eq_true h1) (cnd_t (decide_eq_true h2) (bnd (contains_eq _ _ (by omega)) rfl))) rfl
  ·rw [(decide_eq_false (fun h => h2 h.2) : decide (1 ≤ k ∧ k ≤ 65535) = false),Bool.false_and]
   exact bndL (cnd_t (decide_eq_true h1) (cnd_f (decide_eq_false h2) rfl)) rfl
 ·rw [(decide_eq_false (fun h => h1 h.1) : decide (1 ≤ k ∧ k ≤ 65535) = false),Bool.false_and]
  exact bndL (cnd_f (decide_eq_false h1) rfl) rfl
theorem chunk_eq {n : Nat} {s : T_Spool} {r : T_Rec} (hs : Inv n s) (hr : Rok r) : spool_validChunk s r = some (ckB s r) := by
 have h5 := hs.part; have hd := hr.1.1
 unfold spool_validChunk ckB
 by_cases h1 : r.Data.length < 1
 ·rw [decide_eq_false (by omega : ¬ (1 ≤ r.Data.length ∧ r.Data.length ≤ 48)),Bool.false_and]
  exact bndL (s := true) (cnd_t (decide_eq_true (by omega)) rfl) rfl
 by_cases h2 : 48 < r.Data.length
 ·rw [decide_eq_false (by omega : ¬ (1 ≤ r.Data.length ∧ r.Data.length ≤ 48)),Bool.false_and]
  exact bndL (s := true) (cnd_f (decide_eq_false (by omega)) (inl_of (decide_eq_true (by omega)))) rfl
 rw [decide_eq_true (by omega : 1 ≤ r.Data.length ∧ r.Data.length ≤ 48),Bool.true_and]
 refine bndL (s := false) (cnd_f (decide_eq_false (by omega)) (inl_of (decide_eq_false (by omega)))) (cnd_f rfl ?_)
 by_cases ho : r.Offset = 0
 ·rw [(decide_eq_true ho : decide (r.Offset = 0) = true),Bool.true_or]
  exact cnd_t (beq_iff_eq.2 ho) rfl
 rw [(decide_eq_false ho : decide (r.Offset = 0) = false),Bool.false_or]
 refine cnd_f (beq_eq_false_iff_ne.2 ho) (bndL (s := decide (s.Of = r.Number ∧ r.Offset = (s.Part.length : Int) ∧ s.Part.length + r.Data.length ≤ 5000)) ?_ rfl)
 by_cases a : s.Of = r.Number
 ·by_cases b : r.Offset = (s.Part.length : Int)
  ·have hw := wadd (a := s.Part.length) (b := r.Data.length) (by omega)
   refine cnd_t (beq_iff_eq.2 a) (cnd_t (beq_iff_eq.2 b) (bnd hw (inl_of ?_)))
   by_cases c : s.Part.length + r.Data.length ≤ 5000
   ·rw [(decide_eq_true ⟨a,b,c⟩ : decide (s.Of = r.Number ∧ r.Offset = (s.Part.length : Int) ∧ s.Part.length + r.Data.length ≤ 5000) = true)]; exact decide_eq_true (by omega)
   ·rw [(decide_eq_false (fun h => c h.2.2) : decide (s.Of = r.Number ∧ r.Offset = (s.Part.length : Int) ∧ s.Part.length + r.Data.length ≤ 5000) = false)]; exact decide_eq_false (by omega)
  ·rw [(decide_eq_false (fun h => b h.2.1) : decide (s.Of = r.Number ∧ r.Offset = (s.Part.length : Int) ∧ s.Part.length + r.Data.length ≤ 5000) = false)]
   exact cnd_t (beq_iff_eq.2 a) (cnd_f (beq_eq_false_iff_ne.2 b) rfl)
 ·rw [(decide_eq_false (fun h => a h.1) : decide (s.Of = r.Number ∧ r.Offset = (s.Part.length : Int) ∧ s.Part.length + r.Data.length ≤ 5000) = false)]
  exact cnd_f (beq_eq_false_iff_ne.2 a) rfl
theorem valid_eq {n : Nat} {s : T_Spool} {r : T_Rec} (hs : Inv n s) (hr : Rok r) : spool_valid s r = some (okS s r) := by
 have hl := hs.len; have hn := hs.hn; have hp := hs.packs; have hse := hs.sent
 obtain ⟨q,hq⟩ := rest_tot r
 have he : spool_empty q = some (er r) := by rw [← er_eq r]; unfold erO; rw [hq]; rfl
 unfold spool_valid okS
 refine bnd hq (bnd he ?_)
 cases er r
 ·exact cnd_t rfl rfl
 rw [Bool.true_and]
 refine cnd_f rfl ?_
 by_cases k1 : r.Kind = 1
 ·rw [if_pos k1]
  refine cnd_t (beq_iff_eq.2 k1) ?_
  by_cases a : s.Items.length < 60
  ·by_cases b : r.Id = (s.Items.length : Int) + 1
   ·have hw : IntKind.i64.wrap ((s.Items.length : Int) + 1) = (s.Items.length : Int) + 1 := wrap_i64 (by omega) (by omega)
    by_cases c : r.Origin = 0
    ·rw [(decide_eq_true ⟨a,b,.inl c⟩ : decide (s.Items.length < 60 ∧ r.Id = (s.Items.length : Int) + 1 ∧ (r.Origin = 0 ∨ r.Origin = 1)) = true),Bool.true_and]
     exact bndL (cnd_t (decide_eq_true (by omega)) (bnd (congrArg some hw) (cnd_t (beq_iff_eq.2 b) (cnd_t (beq_iff_eq.2 c) (bnd (mv_eq hr.1.2.2 hr.2) rfl))))) rfl
    ·by_cases d : r.Origin = 1
     ·rw [(decide_eq_true ⟨a,b,.inr d⟩ : decide (s.Items.length < 60 ∧ r.Id = (s.Items.length : Int) + 1 ∧ (r.Origin = 0 ∨ r.Origin = 1)) = true),Bool.true_and]
      exact bndL (cnd_t (decide_eq_true (by omega)) (bnd (congrArg some hw) (cnd_t (beq_iff_eq.2 b) (cnd_f (beq_eq_false_iff_ne.2 c) (cnd_t (beq_iff_eq.2 d) (bnd (mv_eq hr.1.2.2 hr.2) rfl)))))) rfl
     ·rw [(decide_eq_false (fun h => h.2.2.elim c d) : decide (s.Items.length < 60 ∧ r.Id = (s.Items.length : Int) + 1 ∧ (r.Origin = 0 ∨ r.Origin = 1)) = false),Bool.false_and]
      exact bndL (cnd_t (decide_eq_true (by omega)) (bnd (congrArg some hw) (cnd_t (beq_iff_eq.2 b) (cnd_f (beq_eq_false_iff_ne.2 c) (cnd_f (beq_eq_false_iff_ne.2 d) rfl))))) rfl
   ·have hw : IntKind.i64.wrap ((s.Items.length : Int) + 1) = (s.Items.length : Int) + 1 := wrap_i64 (by omega) (by omega)
    rw [(decide_eq_false (fun h => b h.2.1) : decide (s.Items.length < 60 ∧ r.Id = (s.Items.length : Int) + 1 ∧ (r.Origin = 0 ∨ r.Origin = 1)) = false),Bool.false_and]
    exact bndL (cnd_t (decide_eq_true (by omega)) (bnd (congrArg some hw) (cnd_f (beq_eq_false_iff_ne.2 b) rfl))) rfl
  ·rw [(decide_eq_false (fun h => a h.1) : decide (s.Items.length < 60 ∧ r.Id = (s.Items.length : Int) + 1 ∧ (r.Origin = 0 ∨ r.Origin = 1)) = false),Bool.false_and]
   exact bndL (cnd_f (decide_eq_false (by omega)) rfl) rfl
 rw [if_neg k1]
 refine cnd_f (beq_eq_false_iff_ne.2 k1) ?_
 by_cases k2 : r.Kind = 2
 ·rw [if_pos k2]
  refine cnd_t (beq_iff_eq.2 k2) ?_
  have hw : IntKind.i64.wrap (s.Packs + 1) = s.Packs + 1 := wrap_i64 (by omega) (by omega)
  by_cases a : r.Number = s.Packs + 1
  ·rw [(decide_eq_true a : decide (r.Number = s.Packs + 1) = true),Bool.true_and]
   exact bndL (bnd (congrArg some hw) (cnd_t (beq_iff_eq.2 a) (bnd (ids_eq s hs.ids (by omega) _) rfl))) rfl
  ·rw [(decide_eq_false a : decide (r.Number = s.Packs + 1) = false),Bool.false_and]
   exact bndL (bnd (congrArg some hw) (cnd_f (beq_eq_false_iff_ne.2 a) rfl)) rfl
 rw [if_neg k2]
 refine cnd_f (beq_eq_false_iff_ne.2 k2) ?_
 by_cases k3 : r.Kind = 3
 ·rw [if_pos k3]
  refine cnd_t (beq_iff_eq.2 k3) ?_
  by_cases a : 1 ≤ r.Number
  ·by_cases b : r.Number ≤ s.Packs
   ·refine bndL (s := !decide (r.Number ∈ s.Sent)) (cnd_t (decide_eq_true a) (cnd_t (decide_eq_true b) (bnd (contains_eq _ _ (by omega)) rfl))) ?_
    by_cases c : r.Number ∈ s.Sent
    ·rw [(decide_eq_true c : decide (r.Number ∈ s.Sent) = true),(decide_eq_false (fun h => h.2.2 c) : decide (1 ≤ r.Number ∧ r.Number ≤ s.Packs ∧ r.Number ∉ s.Sent) = false)]; rfl
    ·rw [(decide_eq_false c : decide (r.Number ∈ s.Sent) = false),(decide_eq_true ⟨a,b,c⟩ : decide (1 ≤ r.Number ∧ r.Number ≤ s.Packs ∧ r.Number ∉ s.Sent) = true)]; rfl
   ·rw [(decide_eq_false (fun h => b h.2.1) : decide (1 ≤ r.Number ∧ r.Number ≤ s.Packs ∧ r.Number ∉ s.Sent) = false)]
    exact bndL (cnd_t (decide_eq_true a) (cnd_f (decide_eq_false b) rfl)) rfl
  ·rw [(decide_eq_false (fun h => a h.1) : decide (1 ≤ r.Number ∧ r.Number ≤ s.Packs ∧ r.Number ∉ s.Sent) = false)]
   exact bndL (cnd_f (decide_eq_false a) rfl) rfl
 rw [if_neg k3]
 refine cnd_f (beq_eq_false_iff_ne.2 k3) ?_
 by_cases k4 : r.Kind = 4
 ·rw [if_pos k4]
  exact cnd_t (beq_iff_eq.2 k4) (bnd (waits_eq s hs.ids (by omega) _) rfl)
 rw [if_neg k4]
 refine cnd_f (beq_eq_false_iff_ne.2 k4) ?_
 by_cases k5 : r.Kind = 5
 ·rw [if_pos k5]
  refine cnd_t (beq_iff_eq.2 k5) ?_
  cases ho : opn s r.Number
  ·exact bndL (s := false) (bnd (open_eq hs _) (cnd_f ho rfl)) rfl
  ·exact bndL (s := ckB s r) (bnd (open_eq hs _) (cnd_t ho (bnd (chunk_eq hs hr) rfl))) rfl
 rw [if_neg k5]
 refine cnd_f (beq_eq_false_iff_ne.2 k5) ?_
 by_cases k6 : r.Kind = 6
 ·rw [if_pos k6]
  exact cnd_t (beq_iff_eq.2 k6) (bnd (open_eq hs _) rfl)
 rw [if_neg k6]
 exact cnd_f (beq_eq_false_iff_ne.2 k6) rfl
end Go.Abs.Sh
