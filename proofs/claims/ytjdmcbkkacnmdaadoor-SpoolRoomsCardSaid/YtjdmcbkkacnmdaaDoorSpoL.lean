import Derived.Test.YtjdmcbkkacnmdaaDoorSpoJ
namespace Go.Abs.Sh
set_option linter.unusedVariables false
set_option linter.unusedSimpArgs false
def srA (l : List T_Rec) (v3 : T_Spool × Int) : (((List T_Rec) × Int × Int)) → Option (((List T_Rec) × Int × Int) ⊕ (((List T_Rec) × Int) ⊕ Bool)) := (fun ((s39, s40, s41) : (List T_Rec) × Int × Int) =>
          cond ((decide (s41 < v3.2)))
            (bindS (S := (List T_Rec) × Int) (A := (((List T_Rec) × Int × Int) ⊕ (((List T_Rec) × Int) ⊕ Bool)))
              ((ixO s41 l.length).bind fun v11 =>
              (getO l v11).bind fun v12 =>
              (wherryref18_Room ((T_Rec.mk v12.Kind ((T_Mail.mk (T_Path.mk v12.Mail.From.Null v12.Mail.From.Local v12.Mail.From.Domain) v12.Mail.To v12.Mail.Body v12.Mail.Quiet v12.Mail.Helo v12.Mail.At)) v12.Id v12.Ids v12.Origin v12.Number v12.Offset v12.Data))).bind fun v13 =>
              (some (IntKind.i64.wrap (s40 + v13))).bind fun v14 =>
              (ixO s41 l.length).bind fun v15 =>
              (getO l v15).bind fun v16 =>
              cond ((v16.Kind != 5))
                ((ixO s41 l.length).bind fun v18 =>
                (getO l v18).bind fun v19 =>
                (appO 208 s39 [(T_Rec.mk v19.Kind ((T_Mail.mk (T_Path.mk v19.Mail.From.Null v19.Mail.From.Local v19.Mail.From.Domain) v19.Mail.To v19.Mail.Body v19.Mail.Quiet v19.Mail.Helo v19.Mail.At)) v19.Id v19.Ids v19.Origin v19.Number v19.Offset v19.Data)]).bind fun v20 =>
                some (.inl (v20, v14)))
                (some (.inl (s39, v14))))
              (fun ((s60, s61) : (List T_Rec) × Int) =>
                (some (IntKind.i64.wrap (s41 + 1))).bind fun v27 =>
                some (.inl (s60, s61, v27))) some)
            (some (.inr (.inl (s39, s40)))))
def srB (v4 : List T_Rec) : (((List T_Rec) × Int × Int)) → Option (((List T_Rec) × Int × Int) ⊕ (((List T_Rec) × Int) ⊕ Bool)) := (fun ((s95, s96, s97) : (List T_Rec) × Int × Int) =>
              cond ((decide (s97 < (v4.length : Int))))
                (bindS (S := (List T_Rec) × Int) (A := (((List T_Rec) × Int × Int) ⊕ (((List T_Rec) × Int) ⊕ Bool)))
                  ((ixO s97 v4.length).bind fun v67 =>
                  (getO v4 v67).bind fun v68 =>
                  (wherryref18_Room ((T_Rec.mk v68.Kind ((T_Mail.mk (T_Path.mk v68.Mail.From.Null v68.Mail.From.Local v68.Mail.From.Domain) v68.Mail.To v68.Mail.Body v68.Mail.Quiet v68.Mail.Helo v68.Mail.At)) v68.Id v68.Ids v68.Origin v68.Number v68.Offset v68.Data))).bind fun v69 =>
                  (some (IntKind.i64.wrap (s96 + v69))).bind fun v70 =>
                  (ixO s97 v4.length).bind fun v71 =>
                  (getO v4 v71).bind fun v72 =>
                  cond ((v72.Kind != 5))
                    ((ixO s97 v4.length).bind fun v74 =>
                    (getO v4 v74).bind fun v75 =>
                    (appO 208 s95 [(T_Rec.mk v75.Kind ((T_Mail.mk (T_Path.mk v75.Mail.From.Null v75.Mail.From.Local v75.Mail.From.Domain) v75.Mail.To v75.Mail.Body v75.Mail.Quiet v75.Mail.Helo v75.Mail.At)) v75.Id v75.Ids v75.Origin v75.Number v75.Offset v75.Data)]).bind fun v76 =>
                    some (.inl (v76, v70)))
                    (some (.inl (s95, v70))))
                  (fun ((s116, s117) : (List T_Rec) × Int) =>
                    (some (IntKind.i64.wrap (s97 + 1))).bind fun v83 =>
                    some (.inl (s116, s117, v83))) some)
                (some (.inr (.inl (s95, s96)))))
theorem rroom {r : T_Rec} (h : LR r) : wherryref18_Room r = some ((room r : Nat) : Int) := by
  obtain ⟨h1, h2, h3, h4⟩ := h
  simp only [mW] at h4
  unfold wherryref18_Room room
  have e5 : IntKind.i64.wrap (80 * ((1 + r.Mail.To.length : Nat) : Int)) = ((80 * (1 + r.Mail.To.length) : Nat) : Int) := by rw [wrap_i64 (by omega) (by omega)]; simp
  have e6 : IntKind.i64.wrap (8 * (r.Ids.length : Int)) = ((8 * r.Ids.length : Nat) : Int) := by rw [wrap_i64 (by omega) (by omega)]; simp
  refine bnd (wadd (a := 24) (b := r.Data.length) (by omega)) (bnd (wadd (by omega)) (bnd (wadd (by omega)) (bnd (wadd (a := 1) (b := r.Mail.To.length) (by omega)) (bnd (congrArg some e5) (bnd (wadd (by omega)) (bnd (congrArg some e6) (bnd (wadd (by omega)) ?_)))))))
  congr 2
  omega
theorem nc_take (l : List T_Rec) (k : Nat) (hk : k < l.length) : nc (l.take (k + 1)) = if l[k].Kind = 5 then nc (l.take k) else nc (l.take k) ++ [l[k]] := by
  rw [take_succ l k hk]
  simp only [nc, List.filter_append]
  split
  · rename_i h; simp [h]
  · rename_i h; simp [h]
theorem nc_len (l : List T_Rec) : (nc l).length ≤ l.length := List.length_filter_le _ _
theorem roomA (l : List T_Rec) (hr : ∀ r ∈ l, Rok r) (v : T_Spool × Int) (n : Nat) (hv : v.2 = (n : Int)) (hn : n ≤ l.length) (hl : l.length < 1000000) : loopF (srA l v) BIG ([], 0, 0) = some (.inl (nc (l.take n), ((rooms (l.take n) : Nat) : Int))) := by
  refine loop_from (f := srA l v) (fun k => (nc (l.take k), ((rooms (l.take k) : Nat) : Int), (k : Int))) n BIG rfl (by simp only [BIG]; omega) (fun k hk => ?_) (cnd_f (decide_eq_false (by omega)) rfl)
  have hi : k < l.length := by omega
  have hg : getO l k = some l[k] := by simp [getO, hi]
  have hri := hr _ (List.getElem_mem hi)
  have hrm := room_le hri.1
  have hrs := rooms_le (l.take k) (fun r h => (hr r (List.mem_of_mem_take h)).1)
  rw [List.length_take, Nat.min_eq_left (by omega)] at hrs
  have hnl := nc_len (l.take k)
  rw [List.length_take, Nat.min_eq_left (by omega)] at hnl
  refine cnd_t (decide_eq_true (by omega)) (bndL (s := (nc (l.take (k + 1)), ((rooms (l.take (k + 1)) : Nat) : Int))) (bnd (ixO_of hi) (bnd hg (bnd (rroom hri.1) (bnd (wadd (a := rooms (l.take k)) (b := room l[k]) (by omega)) (bnd (ixO_of hi) (bnd hg ?_)))))) (bnd (congrArg some (wrap_succ (n := k) (by omega))) rfl))
  rw [nc_take l k hi, rooms_take l k hi]
  by_cases h5 : l[k].Kind = 5
  · rw [if_pos h5]
    exact cnd_f (by rw [h5]; rfl) rfl
  · rw [if_neg h5]
    exact cnd_t (by simpa using h5) (bnd (ixO_of hi) (bnd hg (bnd (app_of (by simp; omega) (by simp; omega)) rfl)))
theorem roomB (l : List T_Rec) (hr : ∀ r ∈ l, Rok r) (hl : l.length < 1000000) : loopF (srB l) BIG ([], 0, 0) = some (.inl (nc l, ((rooms l : Nat) : Int))) := by
  have h : loopF (srB l) BIG ([], 0, 0) = some (.inl (nc (l.take l.length), ((rooms (l.take l.length) : Nat) : Int))) := by
    refine loop_from (f := srB l) (fun k => (nc (l.take k), ((rooms (l.take k) : Nat) : Int), (k : Int))) l.length BIG rfl (by simp only [BIG]; omega) (fun k hk => ?_) (cnd_f (decide_eq_false (by omega)) rfl)
    have hi : k < l.length := by omega
    have hg : getO l k = some l[k] := by simp [getO, hi]
    have hri := hr _ (List.getElem_mem hi)
    have hrm := room_le hri.1
    have hrs := rooms_le (l.take k) (fun r h => (hr r (List.mem_of_mem_take h)).1)
    rw [List.length_take, Nat.min_eq_left (by omega)] at hrs
    have hnl := nc_len (l.take k)
    rw [List.length_take, Nat.min_eq_left (by omega)] at hnl
    refine cnd_t (decide_eq_true (by omega)) (bndL (s := (nc (l.take (k + 1)), ((rooms (l.take (k + 1)) : Nat) : Int))) (bnd (ixO_of hi) (bnd hg (bnd (rroom hri.1) (bnd (wadd (a := rooms (l.take k)) (b := room l[k]) (by omega)) (bnd (ixO_of hi) (bnd hg ?_)))))) (bnd (congrArg some (wrap_succ (n := k) (by omega))) rfl))
    rw [nc_take l k hi, rooms_take l k hi]
    by_cases h5 : l[k].Kind = 5
    · rw [if_pos h5]
      exact cnd_f (by rw [h5]; rfl) rfl
    · rw [if_neg h5]
      exact cnd_t (by simpa using h5) (bnd (ixO_of hi) (bnd hg (bnd (app_of (by simp; omega) (by simp; omega)) rfl)))
  rwa [List.take_length] at h
theorem spoolRooms_true (l : List T_Rec) (hw : wzL 208 T_Rec.wz l) : wherrylaw19_SpoolRooms l = some true := by
  obtain ⟨b, hh, hb⟩ := heavy_rok l hw
  unfold wherrylaw19_SpoolRooms
  refine bnd hh ?_
  cases b
  case true => exact cnd_t rfl rfl
  obtain ⟨hl, hr⟩ := hb rfl
  have hle := foldS_le newSp l
  refine cnd_f rfl (bnd (fold_eq l hr (by omega)) (bnd (lean_eq l hr (by omega)) ?_))
  refine bndL (s := false) (cnd_f (decide_eq_false (by show ¬ (((foldS newSp l).2 : Nat) : Int) < 0; omega)) (inl_of (decide_eq_false (by show ¬ (l.length : Int) < (((foldS newSp l).2 : Nat) : Int); omega)))) (cnd_f rfl ?_)
  have hsub := lean_sub (lastF 0 0 (l.take (foldS newSp l).2)) (foldS newSp l).1.Done 0 (l.take (foldS newSp l).2)
  have hlen := lean_len (lastF 0 0 (l.take (foldS newSp l).2)) (foldS newSp l).1.Done 0 (l.take (foldS newSp l).2)
  rw [List.length_take] at hlen
  refine bndL (roomA l hr ((foldS newSp l).1, ((foldS newSp l).2 : Int)) (foldS newSp l).2 rfl hle (by omega)) (bndL (roomB (leanS l) (fun r h => hr r (List.mem_of_mem_take (hsub r h))) (by simp only [leanS]; omega)) (bndL (s := true) ?_ rfl))
  have h1 := rooms_lean (lastF 0 0 (l.take (foldS newSp l).2)) (foldS newSp l).1.Done 0 (l.take (foldS newSp l).2)
  have h2 := nc_lean (lastF 0 0 (l.take (foldS newSp l).2)) (foldS newSp l).1.Done 0 (l.take (foldS newSp l).2)
  have h2' : nc (leanS l) = nc (l.take (foldS newSp l).2) := h2
  have h1' : rooms (leanS l) ≤ rooms (l.take (foldS newSp l).2) := h1
  have hnl := nc_len (l.take (foldS newSp l).2)
  rw [List.length_take] at hnl
  rw [h2']
  refine cnd_t (decide_eq_true (by omega)) (bnd (recs_refl _ (fun r h => (hr r (List.mem_of_mem_take (List.mem_filter.1 h).1)).1) (by omega)) (cnd_t rfl (bnd wakes19 rfl)))
end Go.Abs.Sh
