import Derived.Test.YtjdmcbkkacnmdaaGreatDoorSunP
namespace Go.Abs.Sh
set_option linter.unusedVariables false
set_option linter.unusedSimpArgs false
set_option maxRecDepth 100000
/-! The page's own judgement. -/
def e8 : ByteArray := ⟨#[]⟩
def zM8 : T_Mail := T_Mail.mk (T_Path.mk false e8 e8) [] [] false e8 0
def cleanR (r : T_Rec) : T_Rec :=
 if r.Kind = 1 then ⟨r.Kind,r.Mail,r.Id,[],r.Origin,0,0,[]⟩
 else if r.Kind = 2 then ⟨r.Kind,zM8,0,r.Ids,0,r.Number,0,[]⟩
 else if r.Kind = 3 then ⟨r.Kind,zM8,0,[],0,r.Number,0,[]⟩
 else if r.Kind = 4 then ⟨r.Kind,zM8,r.Id,[],0,0,0,[]⟩
 else if r.Kind = 5 then ⟨r.Kind,zM8,0,[],0,r.Number,r.Offset,r.Data⟩
 else if r.Kind = 6 then ⟨r.Kind,zM8,0,[],0,r.Number,0,[]⟩
 else ⟨r.Kind,zM8,0,[],0,0,0,[]⟩
def bodyV (b : List Int) : Bool := (wherryref11_Body b).getD false
def mailV (m : T_Mail) : Bool := patB m.From && (decide (1 ≤ m.To.length ∧ m.To.length ≤ 8) && (bodyV m.Body && (decide (0 ≤ m.At ∧ m.At ≤ 1099511627776) && decide (∀ p ∈ m.To,patB p = true ∧ p.Null = false))))
def okR (s : T_Spool) (r : T_Rec) : Bool := decide (cleanR r = r) && (
 if r.Kind = 1 then decide (s.Items.length < 60 ∧ r.Id = (s.Items.length : Int) + 1 ∧ (r.Origin = 0 ∨ r.Origin = 1)) && mailV r.Mail
 else if r.Kind = 2 then decide (r.Number = s.Packs + 1) && idsB s r.Ids
 else if r.Kind = 3 then decide (1 ≤ r.Number ∧ r.Number ≤ s.Packs ∧ r.Number ∉ s.Sent)
 else if r.Kind = 4 then wt s r.Id
 else if r.Kind = 5 then opn s r.Number && ckB s r
 else if r.Kind = 6 then opn s r.Number
 else false)
def Stt (x : T_Item) : Prop := (x.State = 1 → x.Pack = 0) ∧ (x.Pack ≠ 0 → x.State = 2 ∨ x.State = 3)
def way (a b : Int) : Prop := a = b ∨ (a = 1 ∧ (b = 2 ∨ b = 4)) ∨ (a = 2 ∧ b = 3)
structure Goes (a b : T_Item) : Prop where
 id : a.Id = b.Id
 mail : a.Mail = b.Mail
 way : way a.State b.State
 pack : a.Pack ≠ 0 → a.Pack = b.Pack
theorem goes_refl (a : T_Item) : Goes a a := ⟨rfl,rfl,.inl rfl,fun _ => rfl⟩
structure Next (s t : T_Spool) : Prop where
 len : s.Items.length ≤ t.Items.length
 len1 : t.Items.length ≤ s.Items.length + 1
 packs : s.Packs ≤ t.Packs
 done : s.Done.length ≤ t.Done.length
 sent : s.Sent.length ≤ t.Sent.length
 goes : ∀ k (h : k < s.Items.length) (h' : k < t.Items.length),Goes s.Items[k] t.Items[k]
 new : ∀ h : s.Items.length < t.Items.length,t.Items[s.Items.length].State = 1 ∨ t.Items[s.Items.length].State = 3
 stt : ∀ x ∈ t.Items,Stt x
theorem ids_wt {s : T_Spool} {ids : List Int} (h : idsB s ids = true) : ∀ n ∈ ids,wt s n = true := by
 intro n hn
 obtain ⟨i,hi,rfl⟩ := List.getElem_of_mem hn
 simp only [idsB,Bool.and_eq_true,decide_eq_true_eq] at h
 have h2 := h.2 i hi
 simp only [idB,Bool.and_eq_true] at h2
 have e : ids.getD i 0 = ids[i] := by simp [List.getD,hi]
 rw [e] at h2
 exact h2.2
theorem wt_item {s : T_Spool} (hid : Ids s) {k : Nat} (hk : k < s.Items.length) (h : wt s s.Items[k].Id = true) : s.Items[k].State = 1 := by
 obtain ⟨j,hj,he,hs⟩ := wt_at h
 rw [hid k hk] at he
 obtain rfl : j = k := by omega
 exact hs
theorem next_map {s : T_Spool} (f : T_Item → T_Item) (hs : ∀ x ∈ s.Items,Stt x) (hg : ∀ k (h : k < s.Items.length),Goes s.Items[k] (f s.Items[k]) ∧ Stt (f s.Items[k])) {p : Int} {a b d : List Int} {o : Int} (hp : s.Packs ≤ p) (ha : s.Sent.length ≤ a.length) (hd : s.Done.length ≤ d.length) : Next s ⟨s.Items.map f,p,a,b,o,d⟩ := by
 refine ⟨by simp,by simp,hp,hd,ha,fun k h h' => ?_,fun h => absurd h (by simp),fun x hx => ?_⟩
 ·show Goes s.Items[k] ((s.Items.map f)[k]'h')
  rw [List.getElem_map]; exact (hg k h).1
 ·obtain ⟨y,hy,rfl⟩ := List.mem_map.1 hx
  obtain ⟨k,hk,rfl⟩ := List.getElem_of_mem hy
  exact (hg k hk).2
theorem next_same {s : T_Spool} (hs : ∀ x ∈ s.Items,Stt x) {p : Int} {a b d : List Int} {o : Int} (hp : s.Packs ≤ p) (ha : s.Sent.length ≤ a.length) (hd : s.Done.length ≤ d.length) : Next s ⟨s.Items,p,a,b,o,d⟩ :=
 ⟨Nat.le_refl _,by simp,hp,hd,ha,fun k h h' => goes_refl _,fun h => absurd h (by simp),hs⟩
theorem next_eff {n : Nat} {s : T_Spool} {r : T_Rec} (hi : Inv n s) (hs : ∀ x ∈ s.Items,Stt x) (ho : okS s r = true) : Next s (eff s r) := by
 have hpk := hi.packs
 rcases okS_ok ho with ⟨k,a,b,c⟩ | ⟨k,a,b⟩ | ⟨k,a,b,c⟩ | ⟨k,a⟩ | ⟨k,a,b⟩ | ⟨k,a⟩
 ·rw [eff1 k]
  refine ⟨by simp,by simp,Int.le_refl _,Nat.le_refl _,Nat.le_refl _,fun k h h' => ?_,fun h => ?_,fun x hx => ?_⟩
  ·show Goes s.Items[k] ((s.Items ++ [_])[k]'h')
   rw [List.getElem_append_left h]; exact goes_refl _
  ·show ((s.Items ++ [_])[s.Items.length]'h).State = 1 ∨ ((s.Items ++ [_])[s.Items.length]'h).State = 3
   rw [List.getElem_append_right (by omega)]
   simp only [Nat.sub_self,List.getElem_cons_zero]
   split
   ·exact .inr rfl
   ·exact .inl rfl
  ·rcases List.mem_append.1 hx with h | h
   ·exact hs x h
   ·rw [List.mem_singleton.1 h]
    exact ⟨fun _ => rfl,fun h => absurd rfl h⟩
 ·rw [eff2 k]
  refine next_map _ hs (fun j hj => ?_) (by omega) (Nat.le_refl _) (Nat.le_refl _)
  by_cases hm : s.Items[j].Id ∈ r.Ids
  ·have h1 := wt_item hi.ids hj (ids_wt b _ hm)
   have h0 := (hs _ (List.getElem_mem hj)).1 h1
   simp only [f2,if_pos hm]
   exact ⟨⟨rfl,rfl,.inr (.inl ⟨h1,.inl rfl⟩),fun h => absurd h0 h⟩,⟨fun h => absurd h (by show (2 : Int) ≠ 1; omega),fun _ => .inl rfl⟩⟩
  ·simp only [f2,if_neg hm]
   exact ⟨goes_refl _,hs _ (List.getElem_mem hj)⟩
 ·rw [eff3 k]
  refine next_map _ hs (fun j hj => ?_) (Int.le_refl _) (by simp) (Nat.le_refl _)
  by_cases hm : s.Items[j].Pack = r.Number
  ·have h1 := (hs _ (List.getElem_mem hj)).2 (by omega)
   simp only [f3,if_pos hm]
   exact ⟨⟨rfl,rfl,h1.elim (fun h => .inr (.inr ⟨h,rfl⟩)) (fun h => .inl h),fun h => rfl⟩,⟨fun h => absurd h (by show (3 : Int) ≠ 1; omega),fun _ => .inr rfl⟩⟩
  ·simp only [f3,if_neg hm]
   exact ⟨goes_refl _,hs _ (List.getElem_mem hj)⟩
 ·rw [eff4 k]
  refine next_map _ hs (fun j hj => ?_) (Int.le_refl _) (Nat.le_refl _) (Nat.le_refl _)
  by_cases hm : s.Items[j].Id = r.Id
  ·have h1 := wt_item hi.ids hj (by rw [hm]; exact a)
   have h0 := (hs _ (List.getElem_mem hj)).1 h1
   simp only [f4,if_pos hm]
   exact ⟨⟨rfl,rfl,.inr (.inl ⟨h1,.inr rfl⟩),fun h => rfl⟩,⟨fun h => absurd h (by show (4 : Int) ≠ 1; omega),fun h => absurd h0 h⟩⟩
  ·simp only [f4,if_neg hm]
   exact ⟨goes_refl _,hs _ (List.getElem_mem hj)⟩
 ·rw [eff5 k]
  exact next_same hs (Int.le_refl _) (Nat.le_refl _) (Nat.le_refl _)
 ·rw [eff6 k]
  exact next_same hs (Int.le_refl _) (Nat.le_refl _) (by rw [insS_len]; omega)
/-! What is kept apart,told as an equation. -/
theorem keepPaths_eq (a b : List T_Path) (hl : a.length < 4294967296) : wherrykeep_Paths a b = some (decide (a = b)) := by
 unfold wherrykeep_Paths
 by_cases hlen : a.length = b.length
 ·refine cnd_f (by simp [hlen]) ?_
  have h := loop_all (R := Bool) (f := paS a b) (fun i => decide (a[i]? = b[i]?)) a.length false (fuel := BIG) (by simp only [BIG]; omega) (fun i hi hp => ?_) (fun i hi hp => ?_) (cnd_f (decide_eq_false (by omega)) rfl)
  ·by_cases he : a = b
   ·rw [decide_eq_true he]
    rw [if_pos (fun i _ => by rw [he]; simp)] at h
    exact bndL h rfl
   ·rw [decide_eq_false he]
    rw [if_neg (fun hh => he (List.ext_getElem? fun i => by
     by_cases hi : i < a.length
     ·exact of_decide_eq_true (hh i hi)
     ·rw [List.getElem?_eq_none (by omega),List.getElem?_eq_none (by omega)]))] at h
    exact bndR h rfl
  ·have hb : i < b.length := by omega
   have e := of_decide_eq_true hp
   rw [List.getElem?_eq_getElem hi,List.getElem?_eq_getElem hb] at e
   exact cnd_t (decide_eq_true (by omega)) (bnd (ixO_of hi) (bnd (by simp [getO,hi] : getO a i = some a[i]) (bnd (ixO_of hb) (bnd (by simp [getO,hb] : getO b i = some b[i]) (bnd (keepPath _ _) (cnd_f (by rw [decide_eq_true (Option.some.inj e)]; rfl) (bnd (congrArg some (wrap_succ (n := i) (by omega))) rfl)))))))
  ·have hb : i < b.length := by omega
   have e := of_decide_eq_false hp
   rw [List.getElem?_eq_getElem hi,List.getElem?_eq_getElem hb] at e
   exact cnd_t (decide_eq_true (by omega)) (bnd (ixO_of hi) (bnd (by simp [getO,hi] : getO a i = some a[i]) (bnd (ixO_of hb) (bnd (by simp [getO,hb] : getO b i = some b[i]) (bnd (keepPath _ _) (cnd_t (by rw [decide_eq_false (fun h => e (congrArg some h))]; rfl) rfl))))))
 ·rw [decide_eq_false (fun h => hlen (by rw [h]))]
  exact cnd_t (by simp only [bne_iff_ne,ne_eq]; omega) rfl
theorem keepInts_eq (a b : List Int) (hl : a.length < 4294967296) : wherrykeep_Ints a b = some (decide (a = b)) := by
 unfold wherrykeep_Ints
 by_cases hlen : a.length = b.length
 ·refine cnd_f (by simp [hlen]) ?_
  have h := loop_all (R := Bool) (f := inS a b) (fun i => decide (a[i]? = b[i]?)) a.length false (fuel := BIG) (by simp only [BIG]; omega) (fun i hi hp => ?_) (fun i hi hp => ?_) (cnd_f (decide_eq_false (by omega)) rfl)
  ·by_cases he : a = b
   ·rw [decide_eq_true he]
    rw [if_pos (fun i _ => by rw [he]; simp)] at h
    exact bndL h rfl
   ·rw [decide_eq_false he]
    rw [if_neg (fun hh => he (List.ext_getElem? fun i => by
     by_cases hi : i < a.length
     ·exact of_decide_eq_true (hh i hi)
     ·rw [List.getElem?_eq_none (by omega),List.getElem?_eq_none (by omega)]))] at h
    exact bndR h rfl
  ·have hb : i < b.length := by omega
   have e := of_decide_eq_true hp
   rw [List.getElem?_eq_getElem hi,List.getElem?_eq_getElem hb] at e
   exact cnd_t (decide_eq_true (by omega)) (bnd (ixO_of hi) (bnd (by simp [getO,hi] : getO a i = some a[i]) (bnd (ixO_of hb) (bnd (by simp [getO,hb] : getO b i = some b[i]) (cnd_f (by rw [Option.some.inj e]; simp) (bnd (congrArg some (wrap_succ (n := i) (by omega))) rfl))))))
  ·have hb : i < b.length := by omega
   have e := of_decide_eq_false hp
   rw [List.getElem?_eq_getElem hi,List.getElem?_eq_getElem hb] at e
   exact cnd_t (decide_eq_true (by omega)) (bnd (ixO_of hi) (bnd (by simp [getO,hi] : getO a i = some a[i]) (bnd (ixO_of hb) (bnd (by simp [getO,hb] : getO b i = some b[i]) (cnd_t (by simpa using fun h => e (congrArg some h)) rfl)))))
 ·rw [decide_eq_false (fun h => hlen (by rw [h]))]
  exact cnd_t (by simp only [bne_iff_ne,ne_eq]; omega) rfl
theorem keepMail_eq (a b : T_Mail) (h1 : a.To.length < 4294967296) (h2 : a.Body.length < 4294967296) : wherrykeep_Mail a b = some (decide (a = b)) := by
 unfold wherrykeep_Mail
 obtain ⟨af,at_,ab,aq,ah,aa⟩ := a
 obtain ⟨bf,bt,bb,bq,bh,ba⟩ := b
 by_cases e1 : af = bf
 ·by_cases e2 : at_ = bt
  ·by_cases e3 : ab = bb
   ·by_cases e4 : aq = bq
    ·by_cases e5 : ah = bh
     ·by_cases e6 : aa = ba
      ·subst e1; subst e2; subst e3; subst e4; subst e5; subst e6
       rw [decide_eq_true rfl]
       exact bndL (s := true) (bnd (keepPath _ _) (cnd_t (decide_eq_true rfl) (bnd (keepPaths_eq _ _ h1) (cnd_t (decide_eq_true rfl) (bnd (keepBytes_eq _ _ h2) (cnd_t (decide_eq_true rfl) (bnd rfl (cnd_t (beq_self_eq_true _) (cnd_t (by rw [toList_beq]; exact decide_eq_true rfl) (inl_of (beq_self_eq_true _))))))))))) rfl
      ·rw [decide_eq_false (fun h => e6 (by injection h))]
       exact bndL (s := false) (bnd (keepPath _ _) (cnd_t (decide_eq_true e1) (bnd (keepPaths_eq _ _ h1) (cnd_t (decide_eq_true e2) (bnd (keepBytes_eq _ _ h2) (cnd_t (decide_eq_true e3) (bnd rfl (cnd_t (beq_iff_eq.2 e4) (cnd_t (by rw [toList_beq]; exact decide_eq_true e5) (inl_of (beq_eq_false_iff_ne.2 e6)))))))))))  rfl
     ·rw [decide_eq_false (fun h => e5 (by injection h))]
      exact bndL (s := false) (bnd (keepPath _ _) (cnd_t (decide_eq_true e1) (bnd (keepPaths_eq _ _ h1) (cnd_t (decide_eq_true e2) (bnd (keepBytes_eq _ _ h2) (cnd_t (decide_eq_true e3) (bnd rfl (cnd_t (beq_iff_eq.2 e4) (cnd_f (by rw [toList_beq]; exact decide_eq_false e5) rfl))))))))) rfl
    ·rw [decide_eq_false (fun h => e4 (by injection h))]
     exact bndL (s := false) (bnd (keepPath _ _) (cnd_t (decide_eq_true e1) (bnd (keepPaths_eq _ _ h1) (cnd_t (decide_eq_true e2) (bnd (keepBytes_eq _ _ h2) (cnd_t (decide_eq_true e3) (bnd rfl (cnd_f (beq_eq_false_iff_ne.2 e4) rfl)))))))) rfl
   ·rw [decide_eq_false (fun h => e3 (by injection h))]
    exact bndL (s := false) (bnd (keepPath _ _) (cnd_t (decide_eq_true e1) (bnd (keepPaths_eq _ _ h1) (cnd_t (decide_eq_true e2) (bnd (keepBytes_eq _ _ h2) (cnd_f (decide_eq_false e3) rfl)))))) rfl
  ·rw [decide_eq_false (fun h => e2 (by injection h))]
   exact bndL (s := false) (bnd (keepPath _ _) (cnd_t (decide_eq_true e1) (bnd (keepPaths_eq _ _ h1) (cnd_f (decide_eq_false e2) rfl)))) rfl
 ·rw [decide_eq_false (fun h => e1 (by injection h))]
  exact bndL (s := false) (bnd (keepPath _ _) (cnd_f (decide_eq_false e1) rfl)) rfl
theorem keepRec_eq (a b : T_Rec) (h1 : a.Mail.To.length < 4294967296) (h2 : a.Mail.Body.length < 4294967296) (h3 : a.Ids.length < 4294967296) (h4 : a.Data.length < 4294967296) : wherrykeep_Rec a b = some (decide (a = b)) := by
 unfold wherrykeep_Rec
 obtain ⟨a1,a2,a3,a4,a5,a6,a7,a8⟩ := a
 obtain ⟨b1,b2,b3,b4,b5,b6,b7,b8⟩ := b
 by_cases e1 : a1 = b1
 ·by_cases e2 : a2 = b2
  ·by_cases e3 : a3 = b3
   ·by_cases e4 : a4 = b4
    ·by_cases e5 : a5 = b5
     ·by_cases e6 : a6 = b6
      ·by_cases e7 : a7 = b7
       ·refine bndL (s := decide ((⟨a1,a2,a3,a4,a5,a6,a7,a8⟩ : T_Rec) = ⟨b1,b2,b3,b4,b5,b6,b7,b8⟩)) (cnd_t (beq_iff_eq.2 e1) (bnd (keepMail_eq _ _ h1 h2) (cnd_t (decide_eq_true e2) (cnd_t (beq_iff_eq.2 e3) (bnd (keepInts_eq _ _ h3) (cnd_t (decide_eq_true e4) (cnd_t (beq_iff_eq.2 e5) (cnd_t (beq_iff_eq.2 e6) (cnd_t (beq_iff_eq.2 e7) (bnd (keepBytes_eq _ _ h4) (inl_of ?_))))))))))) rfl
        by_cases e8 : a8 = b8
        ·rw [decide_eq_true e8,decide_eq_true (by rw [e1,e2,e3,e4,e5,e6,e7,e8])]
        ·rw [decide_eq_false e8,decide_eq_false (fun h => e8 (by injection h))]
       ·rw [decide_eq_false (fun h => e7 (by injection h))]
        exact bndL (s := false) (cnd_t (beq_iff_eq.2 e1) (bnd (keepMail_eq _ _ h1 h2) (cnd_t (decide_eq_true e2) (cnd_t (beq_iff_eq.2 e3) (bnd (keepInts_eq _ _ h3) (cnd_t (decide_eq_true e4) (cnd_t (beq_iff_eq.2 e5) (cnd_t (beq_iff_eq.2 e6) (cnd_f (beq_eq_false_iff_ne.2 e7) rfl))))))))) rfl
      ·rw [decide_eq_false (fun h => e6 (by injection h))]
       exact bndL (s := false) (cnd_t (beq_iff_eq.2 e1) (bnd (keepMail_eq _ _ h1 h2) (cnd_t (decide_eq_true e2) (cnd_t (beq_iff_eq.2 e3) (bnd (keepInts_eq _ _ h3) (cnd_t (decide_eq_true e4) (cnd_t (beq_iff_eq.2 e5) (cnd_f (beq_eq_false_iff_ne.2 e6) rfl)))))))) rfl
     ·rw [decide_eq_false (fun h => e5 (by injection h))]
      exact bndL (s := false) (cnd_t (beq_iff_eq.2 e1) (bnd (keepMail_eq _ _ h1 h2) (cnd_t (decide_eq_true e2) (cnd_t (beq_iff_eq.2 e3) (bnd (keepInts_eq _ _ h3) (cnd_t (decide_eq_true e4) (cnd_f (beq_eq_false_iff_ne.2 e5) rfl))))))) rfl
    ·rw [decide_eq_false (fun h => e4 (by injection h))]
     exact bndL (s := false) (cnd_t (beq_iff_eq.2 e1) (bnd (keepMail_eq _ _ h1 h2) (cnd_t (decide_eq_true e2) (cnd_t (beq_iff_eq.2 e3) (bnd (keepInts_eq _ _ h3) (cnd_f (decide_eq_false e4) rfl)))))) rfl
   ·rw [decide_eq_false (fun h => e3 (by injection h))]
    exact bndL (s := false) (cnd_t (beq_iff_eq.2 e1) (bnd (keepMail_eq _ _ h1 h2) (cnd_t (decide_eq_true e2) (cnd_f (beq_eq_false_iff_ne.2 e3) rfl)))) rfl
  ·rw [decide_eq_false (fun h => e2 (by injection h))]
   exact bndL (s := false) (cnd_t (beq_iff_eq.2 e1) (bnd (keepMail_eq _ _ h1 h2) (cnd_f (decide_eq_false e2) rfl))) rfl
 ·rw [decide_eq_false (fun h => e1 (by injection h))]
  exact bndL (s := false) (cnd_f (beq_eq_false_iff_ne.2 e1) rfl) rfl
end Go.Abs.Sh
