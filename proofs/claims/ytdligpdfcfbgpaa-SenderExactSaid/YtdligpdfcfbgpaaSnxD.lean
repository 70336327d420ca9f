import Derived.Test.YtdligpdfcfbgpaaSnxC
namespace Go.Abs.Sh
set_option linter.unusedVariables false
set_option linter.unusedSimpArgs false
theorem first_ok (s : T_Send) (number : Int) (data : List Int) (hs : s.Data.length ≤ 100000) (hd : data.length ≤ 100000) : (((sender_Check s).bind fun v14 =>
          (some (!((v14 == 0) == (sendOk s)))).bind fun v15 =>
          cond ((!((v14 == 0) == (sendOk s))))
            (some (.inl true))
            ((sender_Pieces s).bind fun v16 =>
            (wherryref18_Pieces s).bind fun v17 =>
            cond ((v16 != v17))
              (some (.inl true))
              (cond ((sendOk (T_Send.mk number data false 0 0 0 false)))
                (cond (((cond (sendOk (T_Send.mk number data false 0 0 0 false)) (T_Send.mk number data false 0 0 0 false, (0 : Int)) (zeroSend, 1)).2 != 0))
                  (some (.inl true))
                  ((wherrykeep_Send (cond (sendOk (T_Send.mk number data false 0 0 0 false)) (T_Send.mk number data false 0 0 0 false, (0 : Int)) (zeroSend, 1)).1 (T_Send.mk number data false 0 0 0 false)).bind fun v18 =>
                  cond ((!v18))
                    (some (.inl true))
                    (cond ((!(sendOk (T_Send.mk number data false 0 0 0 false))))
                      (cond (((cond (sendOk (T_Send.mk number data false 0 0 0 false)) (T_Send.mk number data false 0 0 0 false, (0 : Int)) (zeroSend, 1)).2 != 1))
                        (some (.inl true))
                        ((wherrykeep_Send (cond (sendOk (T_Send.mk number data false 0 0 0 false)) (T_Send.mk number data false 0 0 0 false, (0 : Int)) (zeroSend, 1)).1 (T_Send.mk 0 [] false 0 0 0 false)).bind fun v19 =>
                        some (.inl (!v19))))
                      (some (.inl false)))))
                (cond ((!(sendOk (T_Send.mk number data false 0 0 0 false))))
                  (cond (((cond (sendOk (T_Send.mk number data false 0 0 0 false)) (T_Send.mk number data false 0 0 0 false, (0 : Int)) (zeroSend, 1)).2 != 1))
                    (some (.inl true))
                    ((wherrykeep_Send (cond (sendOk (T_Send.mk number data false 0 0 0 false)) (T_Send.mk number data false 0 0 0 false, (0 : Int)) (zeroSend, 1)).1 (T_Send.mk 0 [] false 0 0 0 false)).bind fun v20 =>
                    some (.inl (!v20))))
                  (some (.inl false)))))) : Option (Bool ⊕ Bool)) = some (.inl false) := by
  have hp1 : sender_Pieces s = some (cond (sendOk s) (pcs s) 0) := by
    unfold sender_Pieces
    refine bnd (check_eqS s hs) ?_
    cases sendOk s
    · exact cnd_t rfl rfl
    · exact cnd_f rfl (bnd (pieces_eq s hs) rfl)
  have hp2 : wherryref18_Pieces s = some (cond (sendOk s) (pcs s) 0) := by
    unfold wherryref18_Pieces
    refine bnd (refSend_eq s hs) ?_
    cases sendOk s
    · exact cnd_t rfl rfl
    · exact cnd_f rfl (bnd (rpieces_eq s hs) rfl)
  refine bnd (check_eqS s hs) (bnd rfl (cnd_f (by cases sendOk s <;> rfl) (bnd hp1 (bnd hp2 (cnd_f (by simp) ?_)))))
  cases hm : sendOk (T_Send.mk number data false 0 0 0 false) with
  | true => exact cnd_t rfl (cnd_f rfl (bnd (keepSend_eq (T_Send.mk number data false 0 0 0 false) (T_Send.mk number data false 0 0 0 false) (by show data.length < 4294967296; omega)) (cnd_f (by simp) (cnd_f rfl rfl))))
  | false => exact cnd_f rfl (cnd_t rfl (cnd_f rfl (bnd (keepSend_eq zeroSend (T_Send.mk 0 [] false 0 0 0 false) (by decide)) rfl)))
theorem tick_not {s : T_Send} (hs : s.Data.length ≤ 100000) (h : sendOk s = false) : sender_Tick s = some (zeroSend, [], 1) := by
  unfold sender_Tick
  refine bnd (check_eqS s hs) ?_
  rw [h]
  exact cnd_t rfl rfl
theorem hear_not {s : T_Send} (hs : s.Data.length ≤ 100000) (h : sendOk s = false) (f : T_Frame) : sender_Hear s f = some (zeroSend, 1) := by
  unfold sender_Hear
  refine bnd (check_eqS s hs) ?_
  rw [h]
  exact cnd_t rfl rfl
set_option maxHeartbeats 1000000 in
theorem senderExact_true (s : T_Send) (f : T_Frame) (number : Int) (data : List Int) : wherrylaw21_SenderExact s f number data = some true := by
  unfold wherrylaw21_SenderExact
  by_cases h1 : 5100 < s.Data.length
  · exact bndL (s := true) (cnd_t (by simp; omega) rfl) (cnd_t rfl rfl)
  by_cases h2 : 5100 < data.length
  · exact bndL (s := true) (cnd_f (by simp; omega) (cnd_t (by simp; omega) rfl)) (cnd_t rfl rfl)
  by_cases h3 : 300 < f.Data.length
  · exact bndL (s := true) (cnd_f (by simp; omega) (cnd_f (by simp; omega) (by rw [decide_eq_true (by omega)]))) (cnd_t rfl rfl)
  have hs : s.Data.length ≤ 100000 := by omega
  have hd : data.length ≤ 100000 := by omega
  have hf : f.Data.length ≤ 100000 := by omega
  refine bndL (s := false) (cnd_f (by simp; omega) (cnd_f (by simp; omega) (by rw [decide_eq_false (by omega)]))) (cnd_f rfl (bnd (twinS s hs) (bnd (twinF f hf) (bnd (twinL data hd) (bnd (refSend_eq s hs) ?_)))))
  have hnew := new_eq number data hd
  have hmay := refSend_eq (T_Send.mk number data false 0 0 0 false) hd
  have hfst := first_ok s number data hs hd
  have hz : zeroSend.Data.length < 4294967296 := by decide
  cases hok : sendOk s with
  | false =>
    rw [hok] at hfst
    refine bnd (tick_not hs hok) (bnd (hear_not hs hok f) (bnd hnew (bnd hmay (bndL (s := false) hfst (cnd_f rfl (cnd_t rfl ?_))))))
    exact bndL (s := true) (cnd_t rfl (cnd_t rfl (bnd (keepSend_eq zeroSend (T_Send.mk 0 [] false 0 0 0 false) hz) (cnd_t rfl (bnd (keepSend_eq zeroSend (T_Send.mk 0 [] false 0 0 0 false) hz) (cnd_t rfl (cnd_t rfl (bnd wakes21 rfl)))))))) rfl
  | true =>
    rw [hok] at hfst
    have h := rt_of hok
    obtain ⟨o1, o2, _⟩ := out_tick h
    have hts := (tick_same s).2.1
    have htl : (tickF s).1.Data.length < 4294967296 := by rw [hts]; omega
    have hfr : wherrykeep_Frames (tickF s).2 (tickF s).2 = some true := keepFrames_self _ (fun g hg => by have := (o1 g hg).d; omega) (by omega)
    have hlo := sn_go (tickF s).2.length 0 (tickF s).2 BIG (by omega) (by omega) (fun g hg => by have := (o1 g hg).d; omega) (by unfold BIG; omega)
    have hov := over_all (tickF s).1.Data (by rw [hts]; omega)
    cases hg : good f with
    | false =>
      have hfg := refFrame_eqS f (by omega)
      rw [hg] at hfg
      refine bnd (tick_eq h) (bnd (hear_bad h f hg) (bnd hnew (bnd hmay (bndL (s := false) hfst (cnd_f rfl (cnd_f rfl (bnd (rtick_eq h) ?_)))))))
      refine bndL (s := false) (cnd_f rfl (bnd (keepSend_eq (tickF s).1 _ htl) (cnd_f (by simp) (bnd hfr rfl)))) (cnd_f rfl ?_)
      refine bndL (s := (0, [], false, 0, 0, 0, false, 1)) (bnd hfg (cnd_f rfl rfl)) ?_
      refine bndL (s := false) (cnd_f rfl (bnd (keepSend_eq zeroSend (T_Send.mk 0 [] false 0 0 0 false) hz) rfl)) (cnd_f rfl ?_)
      refine bndL (s := ()) hlo (bnd hov ?_)
      exact bndL (s := true) (bnd (keepSend_eq s s (by omega)) (cnd_t (by simp) (bnd (keepFrame_eq f f (by omega)) (cnd_t (by simp) (bnd (keepBytes_eq data data (by omega)) (cnd_t (by simp) (bnd wakes21 rfl))))))) rfl
    | true =>
      have hfg := refFrame_eqS f (by omega)
      rw [hg] at hfg
      obtain ⟨z, e, k1, k2, k3⟩ := hear_same h f hg
      refine bnd (tick_eq h) (bnd k1 (bnd hnew (bnd hmay (bndL (s := false) hfst (cnd_f rfl (cnd_f rfl (bnd (rtick_eq h) ?_)))))))
      refine bndL (s := false) (cnd_f rfl (bnd (keepSend_eq (tickF s).1 _ htl) (cnd_f (by simp) (bnd hfr rfl)))) (cnd_f rfl ?_)
      refine bndL (s := (z.Number, z.Data, z.Ready, z.Base, z.Next, z.Wait, z.Over, e)) (bnd hfg (cnd_t rfl (bnd k2 rfl))) ?_
      refine bndL (s := false) (cnd_f (by simp) (bnd (keepSend_eq z (T_Send.mk z.Number z.Data z.Ready z.Base z.Next z.Wait z.Over) (by omega)) (by simp))) (cnd_f rfl ?_)
      refine bndL (s := ()) hlo (bnd hov ?_)
      exact bndL (s := true) (bnd (keepSend_eq s s (by omega)) (cnd_t (by simp) (bnd (keepFrame_eq f f (by omega)) (cnd_t (by simp) (bnd (keepBytes_eq data data (by omega)) (cnd_t (by simp) (bnd wakes21 rfl))))))) rfl
end Go.Abs.Sh
