import Derived.Test.YtdligpdfcfbgpaaSendS
namespace Go.Abs.Sh
set_option linter.unusedVariables false
set_option linter.unusedSimpArgs false

def whol1 (v5 : Int) (data : List Int) (v24 : T_Send × (List T_Frame) × Int) : ((Int × (List Int) × Bool × Int × Int × Int × Bool × Int × (List Int) × Int)) → Option ((Int × (List Int) × Bool × Int × Int × Int × Bool × Int × (List Int) × Int) ⊕ ((Int × (List Int) × Bool × Int × Int × Int × Bool × Int × (List Int)) ⊕ ((Int × (List Int) × Bool × Int × Int × Int × Bool × Int × (List Int) × Int) ⊕ ((Unit) ⊕ Bool)))) := (fun ((s857, s858, s859, s860, s861, s862, s863, s864, s865, s866) : Int × (List Int) × Bool × Int × Int × Int × Bool × Int × (List Int) × Int) =>
                cond ((decide (s866 < (v24.2.1.length : Int))))
                  (bindS (S := Int × (List Int) × Int × Int × Int) (A := ((Int × (List Int) × Bool × Int × Int × Int × Bool × Int × (List Int) × Int) ⊕ ((Int × (List Int) × Bool × Int × Int × Int × Bool × Int × (List Int)) ⊕ ((Int × (List Int) × Bool × Int × Int × Int × Bool × Int × (List Int) × Int) ⊕ ((Unit) ⊕ Bool)))))
                    (bindS (S := Bool) (A := ((Int × (List Int) × Int × Int × Int) ⊕ ((Int × (List Int) × Bool × Int × Int × Int × Bool × Int × (List Int) × Int) ⊕ ((Int × (List Int) × Bool × Int × Int × Int × Bool × Int × (List Int)) ⊕ ((Int × (List Int) × Bool × Int × Int × Int × Bool × Int × (List Int) × Int) ⊕ ((Unit) ⊕ Bool))))))
                      ((ixO s866 v24.2.1.length).bind fun v27 =>
                      (getO v24.2.1 v27).bind fun v28 =>
                      cond ((v28.Kind == 1))
                        (some (.inl (((s865.length : Int) == (data.length : Int)))))
                        (some (.inl false)))
                      (fun (s934 : Bool) =>
                        cond (s934)
                          (some (.inl (s864, s865, 5, 0, 0)))
                          ((ixO s866 v24.2.1.length).bind fun v34 =>
                          (getO v24.2.1 v34).bind fun v35 =>
                          cond ((v35.Kind == 1))
                            (some (.inl ((s864, s865, 2, (s865.length : Int), 0))))
                            (bindS (S := Bool) (A := ((Int × (List Int) × Int × Int × Int) ⊕ ((Int × (List Int) × Bool × Int × Int × Int × Bool × Int × (List Int) × Int) ⊕ ((Int × (List Int) × Bool × Int × Int × Int × Bool × Int × (List Int)) ⊕ ((Int × (List Int) × Bool × Int × Int × Int × Bool × Int × (List Int) × Int) ⊕ ((Unit) ⊕ Bool))))))
                              ((ixO s866 v24.2.1.length).bind fun v37 =>
                              (getO v24.2.1 v37).bind fun v38 =>
                              cond ((v38.Offset != (s865.length : Int)))
                                (some (.inl true))
                                ((ixO s866 v24.2.1.length).bind fun v39 =>
                                (getO v24.2.1 v39).bind fun v40 =>
                                (remO s864 8).bind fun v41 =>
                                some (.inl (v40.Seq != v41))))
                              (fun (s940 : Bool) =>
                                cond (s940)
                                  (some (.inr (.inr (.inr (.inr (.inr (false)))))))
                                  ((ixO s866 v24.2.1.length).bind fun v47 =>
                                  (getO v24.2.1 v47).bind fun v48 =>
                                  (appO 1 s865 v48.Data).bind fun v49 =>
                                  (some (IntKind.i64.wrap (s864 + 1))).bind fun v50 =>
                                  (remO v50 8).bind fun v51 =>
                                  some (.inl (v50, v49, 4, 0, v51)))) some))) some)
                    (fun ((s926, s927, s928, s929, s930) : Int × (List Int) × Int × Int × Int) =>
                      (sender_Hear (T_Send.mk s857 s858 s859 s860 s861 s862 s863) (T_Frame.mk s928 v5 s929 s930 [])).bind fun v71 =>
                      cond ((v71.2 != 0))
                        (some (.inr (.inr (.inr (.inr (false))))))
                        ((some (IntKind.i64.wrap (s866 + 1))).bind fun v73 =>
                        some (.inl (v71.1.Number, v71.1.Data, v71.1.Ready, v71.1.Base, v71.1.Next, v71.1.Wait, v71.1.Over, s926, s927, v73)))) some)
                  (some (.inr (.inl (s857, s858, s859, s860, s861, s862, s863, s864, s865)))))
def whol2 (v13 : Int) : ((Int × (List Int) × Bool × Int × Int × Int × Bool)) → Option ((Int × (List Int) × Bool × Int × Int × Int × Bool) ⊕ ((Int × (List Int) × Bool × Int × Int × Int × Bool) ⊕ ((Int × (List Int) × Bool × Int × Int × Int × Bool × Int × (List Int) × Int) ⊕ ((Unit) ⊕ Bool)))) := (fun ((s978, s979, s980, s981, s982, s983, s984) : Int × (List Int) × Bool × Int × Int × Int × Bool) =>
                      bindS (S := Bool) (A := ((Int × (List Int) × Bool × Int × Int × Int × Bool) ⊕ ((Int × (List Int) × Bool × Int × Int × Int × Bool) ⊕ ((Int × (List Int) × Bool × Int × Int × Int × Bool × Int × (List Int) × Int) ⊕ ((Unit) ⊕ Bool)))))
                        (cond ((s981 == v13))
                          (some (.inl ((decide (0 < s983)))))
                          (some (.inl false)))
                        (fun (s1008 : Bool) =>
                          cond (s1008)
                            ((sender_Tick (T_Send.mk s978 s979 s980 s981 s982 s983 s984)).bind fun v217 =>
                            bindS (S := Bool) (A := ((Int × (List Int) × Bool × Int × Int × Int × Bool) ⊕ ((Int × (List Int) × Bool × Int × Int × Int × Bool) ⊕ ((Int × (List Int) × Bool × Int × Int × Int × Bool × Int × (List Int) × Int) ⊕ ((Unit) ⊕ Bool)))))
                              (cond ((v217.2.2 != 0))
                                (some (.inl true))
                                (some (.inl ((decide (s983 ≤ v217.1.Wait))))))
                              (fun (s1013 : Bool) =>
                                cond (s1013)
                                  (some (.inr (.inr (.inr (.inr (false))))))
                                  (some (.inl (v217.1.Number, v217.1.Data, v217.1.Ready, v217.1.Base, v217.1.Next, v217.1.Wait, v217.1.Over)))) some)
                            (some (.inr (.inl (s978, s979, s980, s981, s982, s983, s984))))) some)
def wholS (v5 : Int) (data : List Int) (v13 : Int) : ((Int × (List Int) × Bool × Int × Int × Int × Bool × Int × (List Int) × Int)) → Option ((Int × (List Int) × Bool × Int × Int × Int × Bool × Int × (List Int) × Int) ⊕ ((Unit) ⊕ Bool)) := (fun ((s528, s529, s530, s531, s532, s533, s534, s535, s536, s537) : Int × (List Int) × Bool × Int × Int × Int × Bool × Int × (List Int) × Int) =>
        (some (IntKind.i64.wrap (v13 + 3))).bind fun v22 =>
        cond ((decide (s537 < v22)))
          ((sender_Tick (T_Send.mk s528 s529 s530 s531 s532 s533 s534)).bind fun v24 =>
          cond ((v24.2.2 != 0))
            (some (.inr (.inr (false))))
            (bindS (S := (Int × (List Int) × Bool × Int × Int × Int × Bool × Int × (List Int))) (A := ((Int × (List Int) × Bool × Int × Int × Int × Bool × Int × (List Int) × Int) ⊕ ((Unit) ⊕ Bool)))
              (loopF (S := (Int × (List Int) × Bool × Int × Int × Int × Bool × Int × (List Int) × Int)) (O := (Int × (List Int) × Bool × Int × Int × Int × Bool × Int × (List Int)) ⊕ ((Int × (List Int) × Bool × Int × Int × Int × Bool × Int × (List Int) × Int) ⊕ ((Unit) ⊕ Bool))) (fun ((s857, s858, s859, s860, s861, s862, s863, s864, s865, s866) : Int × (List Int) × Bool × Int × Int × Int × Bool × Int × (List Int) × Int) =>
                cond ((decide (s866 < (v24.2.1.length : Int))))
                  (bindS (S := Int × (List Int) × Int × Int × Int) (A := ((Int × (List Int) × Bool × Int × Int × Int × Bool × Int × (List Int) × Int) ⊕ ((Int × (List Int) × Bool × Int × Int × Int × Bool × Int × (List Int)) ⊕ ((Int × (List Int) × Bool × Int × Int × Int × Bool × Int × (List Int) × Int) ⊕ ((Unit) ⊕ Bool)))))
                    (bindS (S := Bool) (A := ((Int × (List Int) × Int × Int × Int) ⊕ ((Int × (List Int) × Bool × Int × Int × Int × Bool × Int × (List Int) × Int) ⊕ ((Int × (List Int) × Bool × Int × Int × Int × Bool × Int × (List Int)) ⊕ ((Int × (List Int) × Bool × Int × Int × Int × Bool × Int × (List Int) × Int) ⊕ ((Unit) ⊕ Bool))))))
                      ((ixO s866 v24.2.1.length).bind fun v27 =>
                      (getO v24.2.1 v27).bind fun v28 =>
                      cond ((v28.Kind == 1))
                        (some (.inl (((s865.length : Int) == (data.length : Int)))))
                        (some (.inl false)))
                      (fun (s934 : Bool) =>
                        cond (s934)
                          (some (.inl (s864, s865, 5, 0, 0)))
                          ((ixO s866 v24.2.1.length).bind fun v34 =>
                          (getO v24.2.1 v34).bind fun v35 =>
                          cond ((v35.Kind == 1))
                            (some (.inl ((s864, s865, 2, (s865.length : Int), 0))))
                            (bindS (S := Bool) (A := ((Int × (List Int) × Int × Int × Int) ⊕ ((Int × (List Int) × Bool × Int × Int × Int × Bool × Int × (List Int) × Int) ⊕ ((Int × (List Int) × Bool × Int × Int × Int × Bool × Int × (List Int)) ⊕ ((Int × (List Int) × Bool × Int × Int × Int × Bool × Int × (List Int) × Int) ⊕ ((Unit) ⊕ Bool))))))
                              ((ixO s866 v24.2.1.length).bind fun v37 =>
                              (getO v24.2.1 v37).bind fun v38 =>
                              cond ((v38.Offset != (s865.length : Int)))
                                (some (.inl true))
                                ((ixO s866 v24.2.1.length).bind fun v39 =>
                                (getO v24.2.1 v39).bind fun v40 =>
                                (remO s864 8).bind fun v41 =>
                                some (.inl (v40.Seq != v41))))
                              (fun (s940 : Bool) =>
                                cond (s940)
                                  (some (.inr (.inr (.inr (.inr (.inr (false)))))))
                                  ((ixO s866 v24.2.1.length).bind fun v47 =>
                                  (getO v24.2.1 v47).bind fun v48 =>
                                  (appO 1 s865 v48.Data).bind fun v49 =>
                                  (some (IntKind.i64.wrap (s864 + 1))).bind fun v50 =>
                                  (remO v50 8).bind fun v51 =>
                                  some (.inl (v50, v49, 4, 0, v51)))) some))) some)
                    (fun ((s926, s927, s928, s929, s930) : Int × (List Int) × Int × Int × Int) =>
                      (sender_Hear (T_Send.mk s857 s858 s859 s860 s861 s862 s863) (T_Frame.mk s928 v5 s929 s930 [])).bind fun v71 =>
                      cond ((v71.2 != 0))
                        (some (.inr (.inr (.inr (.inr (false))))))
                        ((some (IntKind.i64.wrap (s866 + 1))).bind fun v73 =>
                        some (.inl (v71.1.Number, v71.1.Data, v71.1.Ready, v71.1.Base, v71.1.Next, v71.1.Wait, v71.1.Over, s926, s927, v73)))) some)
                  (some (.inr (.inl (s857, s858, s859, s860, s861, s862, s863, s864, s865)))))
                BIG (v24.1.Number, v24.1.Data, v24.1.Ready, v24.1.Base, v24.1.Next, v24.1.Wait, v24.1.Over, s535, s536, 0))
              (fun ((s899, s900, s901, s902, s903, s904, s905, s906, s907) : Int × (List Int) × Bool × Int × Int × Int × Bool × Int × (List Int)) =>
                cond (s905)
                  (bindS (S := Bool) (A := ((Int × (List Int) × Bool × Int × Int × Int × Bool × Int × (List Int) × Int) ⊕ ((Unit) ⊕ Bool)))
                    ((wherrykeep_Bytes s907 data).bind fun v206 =>
                    cond (v206)
                      ((wherrylaw21_wakes ).bind fun v207 =>
                      some (.inl v207))
                      (some (.inl false)))
                    (fun (s947 : Bool) =>
                      some (.inr (.inr (s947)))) some)
                  (bindS (S := (Int × (List Int) × Bool × Int × Int × Int × Bool)) (A := ((Int × (List Int) × Bool × Int × Int × Int × Bool × Int × (List Int) × Int) ⊕ ((Unit) ⊕ Bool)))
                    (loopF (S := (Int × (List Int) × Bool × Int × Int × Int × Bool)) (O := (Int × (List Int) × Bool × Int × Int × Int × Bool) ⊕ ((Int × (List Int) × Bool × Int × Int × Int × Bool × Int × (List Int) × Int) ⊕ ((Unit) ⊕ Bool))) (fun ((s978, s979, s980, s981, s982, s983, s984) : Int × (List Int) × Bool × Int × Int × Int × Bool) =>
                      bindS (S := Bool) (A := ((Int × (List Int) × Bool × Int × Int × Int × Bool) ⊕ ((Int × (List Int) × Bool × Int × Int × Int × Bool) ⊕ ((Int × (List Int) × Bool × Int × Int × Int × Bool × Int × (List Int) × Int) ⊕ ((Unit) ⊕ Bool)))))
                        (cond ((s981 == v13))
                          (some (.inl ((decide (0 < s983)))))
                          (some (.inl false)))
                        (fun (s1008 : Bool) =>
                          cond (s1008)
                            ((sender_Tick (T_Send.mk s978 s979 s980 s981 s982 s983 s984)).bind fun v217 =>
                            bindS (S := Bool) (A := ((Int × (List Int) × Bool × Int × Int × Int × Bool) ⊕ ((Int × (List Int) × Bool × Int × Int × Int × Bool) ⊕ ((Int × (List Int) × Bool × Int × Int × Int × Bool × Int × (List Int) × Int) ⊕ ((Unit) ⊕ Bool)))))
                              (cond ((v217.2.2 != 0))
                                (some (.inl true))
                                (some (.inl ((decide (s983 ≤ v217.1.Wait))))))
                              (fun (s1013 : Bool) =>
                                cond (s1013)
                                  (some (.inr (.inr (.inr (.inr (false))))))
                                  (some (.inl (v217.1.Number, v217.1.Data, v217.1.Ready, v217.1.Base, v217.1.Next, v217.1.Wait, v217.1.Over)))) some)
                            (some (.inr (.inl (s978, s979, s980, s981, s982, s983, s984))))) some)
                      BIG (s899, s900, s901, s902, s903, s904, s905))
                    (fun ((s995, s996, s997, s998, s999, s1000, s1001) : Int × (List Int) × Bool × Int × Int × Int × Bool) =>
                      (some (IntKind.i64.wrap (s537 + 1))).bind fun v280 =>
                      some (.inl (s995, s996, s997, s998, s999, s1000, s1001, s906, s907, v280))) some)) some))
          (some (.inr (.inl ()))))

theorem new_eq (N : Int) (data : List Int) (h : data.length ≤ 100000) : sender_New N data = some (cond (sendOk (T_Send.mk N data false 0 0 0 false)) (T_Send.mk N data false 0 0 0 false, 0) (zeroSend, 1)) := by
  unfold sender_New
  refine bnd (list_eq _ h) (bnd (check_eqS _ h) ?_)
  cases sendOk (T_Send.mk N data false 0 0 0 false) <;> rfl

theorem zero_wait {v : Int} (x : T_Send) (f : Nat) (h : (cond ((x.Base == v)) (decide (0 < x.Wait)) false) = false) :
    loopF (whol2 v) (f + 1) (x.Number, x.Data, x.Ready, x.Base, x.Next, x.Wait, x.Over) = some (.inl (x.Number, x.Data, x.Ready, x.Base, x.Next, x.Wait, x.Over)) := by
  refine loop_exit ?_
  unfold whol2
  refine bndL (s := false) ?_ (cnd_f rfl rfl)
  cases hb : (x.Base == v)
  · rfl
  · rw [hb] at h
    exact cnd_t rfl (by rw [show decide (0 < x.Wait) = false from h])

theorem wait_loop {P : Nat} (N : Int) (data : List Int) (o : Bool) (ho : o = false) : ∀ (k fuel : Nat), k ≤ 3 → k < fuel → Rt (T_Send.mk N data true (P : Int) (P : Int) (k : Int) o) → pcs (T_Send.mk N data true (P : Int) (P : Int) (k : Int) o) = (P : Int) →
    loopF (whol2 (P : Int)) fuel (N, data, true, (P : Int), (P : Int), (k : Int), o) = some (.inl (N, data, true, (P : Int), (P : Int), 0, o)) := by
  intro k
  induction k with
  | zero =>
    intro fuel hk hf hr hp
    obtain ⟨f, rfl⟩ : ∃ f, fuel = f + 1 := ⟨fuel - 1, by omega⟩
    exact zero_wait (T_Send.mk N data true (P : Int) (P : Int) 0 o) f (by cases ((P : Int) == (P : Int)) <;> rfl)
  | succ k ih =>
    intro fuel hk hf hr hp
    obtain ⟨f, rfl⟩ : ∃ f, fuel = f + 1 := ⟨fuel - 1, by omega⟩
    have e : tickF (T_Send.mk N data true (P : Int) (P : Int) ((k + 1 : Nat) : Int) o) = (T_Send.mk N data true (P : Int) (P : Int) (k : Int) o, []) := by
      unfold tickF
      rw [if_neg (by rw [ho]; simp), if_pos (.inr hp.symm), if_pos (by show (0 : Int) < ((k + 1 : Nat) : Int); omega)]
      simp
    have tk := tick_eq hr
    rw [e] at tk
    have hr' := rt_tick hr
    rw [e] at hr'
    refine (loop_next ?_).trans (ih f (by omega) (by omega) hr' hp)
    unfold whol2
    exact bndL (s := true) (cnd_t (by simp) (by rw [show decide ((0 : Int) < ((k + 1 : Nat) : Int)) = true from decide_eq_true (by omega)])) (cnd_t rfl (bnd tk (bndL (s := false) (cnd_f rfl (by rw [show decide (((k + 1 : Nat) : Int) ≤ (k : Int)) = false from decide_eq_false (by omega)])) (cnd_f rfl rfl))))

theorem take48 (data : List Int) (a : Nat) : data.take (48 * a) ++ (data.drop (48 * a)).take 48 = data.take (48 * (a + 1)) := by
  rw [show 48 * (a + 1) = 48 * a + 48 by omega, List.take_add]

/-- A window is answered piece by piece. -/
theorem whol_win (N : Int) (data : List Int) (x : T_Send) (p n P : Nat) (hq : p + n ≤ P) (hn7 : n ≤ 7) (hP : 48 * P ≤ data.length + 47) (hPd : data.length ≤ 48 * P) (hdl : data.length ≤ 2000) (h1 : 1 ≤ data.length) (hN : 1 ≤ N ∧ N ≤ 65535) (w : T_Send) (hw : w.Data = data ∧ w.Number = N) :
    ∀ (k fuel a : Nat), n - a = k → a ≤ n → k < fuel →
    loopF (whol1 N data (x, frames w p n, 0)) fuel (N, data, true, ((p + a : Nat) : Int), ((p + n : Nat) : Int), 3, false, ((p + a : Nat) : Int), data.take (48 * (p + a)), (a : Int)) =
      some (.inl (N, data, true, ((p + n : Nat) : Int), ((p + n : Nat) : Int), 3, false, ((p + n : Nat) : Int), data.take (48 * (p + n)))) := by
  intro k
  induction k with
  | zero =>
    intro fuel a hk ha hf
    obtain ⟨f, rfl⟩ : ∃ f, fuel = f + 1 := ⟨fuel - 1, by omega⟩
    obtain rfl : a = n := by omega
    exact loop_exit (by unfold whol1; exact cnd_f (by simp [frames_len]) rfl)
  | succ k ih =>
    intro fuel a hk ha hf
    obtain ⟨f, rfl⟩ : ∃ f, fuel = f + 1 := ⟨fuel - 1, by omega⟩
    have w1 : IntKind.i64.wrap ((a : Int) + 1) = ((a + 1 : Nat) : Int) := by rw [wrap_i64 (by omega) (by omega)]; simp
    have w2 : IntKind.i64.wrap (((p + a : Nat) : Int) + 1) = ((p + (a + 1) : Nat) : Int) := by rw [wrap_i64 (by omega) (by omega)]; omega
    have hix : ixO (a : Int) (frames w p n).length = some a := by rw [frames_len]; exact ixO_of (by omega)
    have hg := frames_get w p n a (by omega)
    have hs : Rt (T_Send.mk N data true ((p + a : Nat) : Int) ((p + n : Nat) : Int) 3 false) := by
      have e : pcs (T_Send.mk N data true ((p + a : Nat) : Int) ((p + n : Nat) : Int) 3 false) = (((data.length + 47) / 48 : Nat) : Int) := rfl
      exact ⟨hN.1, hN.2, h1, by show data.length ≤ 5000; omega, by simp; omega, by rw [e]; show ((p + a : Nat) : Int) ≤ _; omega, by show ((p + a : Nat) : Int) ≤ ((p + n : Nat) : Int); omega, by show ((p + n : Nat) : Int) ≤ ((p + a : Nat) : Int) + 7; omega, by rw [e]; show ((p + n : Nat) : Int) ≤ _; omega, by simp, by simp, .inl rfl⟩
    have hack : sender_ack (T_Send.mk N data true ((p + a : Nat) : Int) ((p + n : Nat) : Int) 3 false) (((p + (a + 1)) % 8 : Nat) : Int) = some (true, T_Send.mk N data true ((p + (a + 1) : Nat) : Int) ((p + n : Nat) : Int) 3 false) := by
      unfold sender_ack
      refine cnd_f rfl (bnd (x := ((p + (a + 1) : Nat) : Int)) (by rw [← w2]) (bndR (a := (true, T_Send.mk N data true ((p + (a + 1) : Nat) : Int) ((p + n : Nat) : Int) 3 false)) ?_ rfl))
      exact ack_some (T_Send.mk N data true ((p + a : Nat) : Int) ((p + n : Nat) : Int) 3 false) (p + n) ((p + (a + 1)) % 8) (p + (a + 1)) rfl (by omega) (by omega) rfl 0 BIG (p + (a + 1)) (by omega) (by omega) (by unfold BIG; omega) fun j j1 j2 => by omega
    have hh := hear_ack hs rfl ((p + (a + 1)) % 8) (by omega) _ hack
    refine (loop_next ?_).trans (ih f (a + 1) (by omega) (by omega) (by omega))
    have hgot : appO 1 (data.take (48 * (p + a))) (pieceD w (p + a)) = some (data.take (48 * (p + (a + 1)))) := by
      simp only [appO]
      rw [if_pos (by rw [pieceD_len, List.length_take]; omega)]
      unfold pieceD
      rw [hw.1, take48]
      rfl
    have hlen : (data.take (48 * (p + a))).length = 48 * (p + a) := by rw [List.length_take]; omega
    have hoff : ((pieceF w (p + a)).Offset != ((data.take (48 * (p + a))).length : Int)) = false := by
      rw [hlen]; simp [pieceF]
    unfold whol1
    refine cnd_t (by simp [frames_len]; omega) (bndL (s := (((p + (a + 1) : Nat) : Int), data.take (48 * (p + (a + 1))), 4, 0, (((p + (a + 1)) % 8 : Nat) : Int))) (bndL (s := false) (bnd hix (bnd hg (cnd_f rfl rfl))) (cnd_f rfl (bnd hix (bnd hg (cnd_f rfl (bndL (s := false) ?_ (cnd_f rfl (bnd hix (bnd hg (bnd hgot (bnd (x := ((p + (a + 1) : Nat) : Int)) (by rw [w2]) (bnd (rem8 _) rfl)))))))))))) (bnd hh (cnd_f rfl (bnd (x := ((a + 1 : Nat) : Int)) (by rw [w1]) rfl))))
    exact bnd hix (bnd hg (cnd_f hoff (bnd hix (bnd hg (bnd (rem8 _) (by simp [pieceF]))))))

theorem whol_loop (N : Int) (data : List Int) (P : Nat) (hP : P = (data.length + 47) / 48) (hdl : data.length ≤ 2000) (h1 : 1 ≤ data.length) (hN : 1 ≤ N ∧ N ≤ 65535) :
    ∀ (k fuel p i w : Nat), P - p = k → p ≤ P → w ≤ 3 → (p = P → w = 0) → k + 1 < fuel → i ≤ p + 1 →
    loopF (wholS N data (P : Int)) fuel (N, data, true, (p : Int), (p : Int), (w : Int), false, (p : Int), data.take (48 * p), (i : Int)) = some (.inr true) := by
  have wP : IntKind.i64.wrap ((P : Int) + 3) = ((P + 3 : Nat) : Int) := by rw [wrap_i64 (by omega) (by omega)]; simp
  have rt : ∀ b n w : Nat, b ≤ P → b ≤ n → n ≤ b + 7 → n ≤ P → w ≤ 3 → Rt (T_Send.mk N data true (b : Int) (n : Int) (w : Int) false) := by
    intro b n w hb hbn hn7 hnP hw
    have e : pcs (T_Send.mk N data true (b : Int) (n : Int) (w : Int) false) = (P : Int) := by rw [hP]; rfl
    exact ⟨hN.1, hN.2, h1, by show data.length ≤ 5000; omega, by simp, by rw [e]; show (b : Int) ≤ _; omega, by show (b : Int) ≤ (n : Int); omega, by show (n : Int) ≤ (b : Int) + 7; omega, by rw [e]; show (n : Int) ≤ _; omega, by simp, by show (w : Int) ≤ 3; omega, .inl rfl⟩
  have pc : ∀ r b n w o, pcs (T_Send.mk N data r b n w o) = (P : Int) := by intro r b n w o; rw [hP]; rfl
  intro k
  induction k using Nat.strongRecOn with
  | _ k ih =>
    intro fuel p i w hk hp hw hw0 hf hi
    obtain ⟨f, rfl⟩ : ∃ f, fuel = f + 1 := ⟨fuel - 1, by omega⟩
    have w1 : IntKind.i64.wrap ((i : Int) + 1) = ((i + 1 : Nat) : Int) := by rw [wrap_i64 (by omega) (by omega)]; simp
    have hr := rt p p w hp (by omega) (by omega) hp hw
    have tk := tick_eq hr
    have hlt : decide ((i : Int) < ((P + 3 : Nat) : Int)) = true := by simp; omega
    by_cases hpP : p = P
    · obtain rfl := hw0 hpP
      have e : tickF (T_Send.mk N data true (p : Int) (p : Int) ((0 : Nat) : Int) false) = (T_Send.mk N data true (p : Int) (p : Int) 3 false, [helloF (T_Send.mk N data true (p : Int) (p : Int) ((0 : Nat) : Int) false)]) := by
        unfold tickF
        rw [if_neg (by simp), if_pos (.inr (by rw [pc, hpP])), if_neg (by simp)]
      rw [e] at tk
      have htk : data.take (48 * p) = data := List.take_of_length_le (by omega)
      have hd := hear_done (rt p p 3 hp (by omega) (by omega) hp (by omega)) rfl
      have lp : loopF (whol1 N data (T_Send.mk N data true (p : Int) (p : Int) 3 false, [helloF (T_Send.mk N data true (p : Int) (p : Int) ((0 : Nat) : Int) false)], 0)) BIG (N, data, true, (p : Int), (p : Int), 3, false, (p : Int), data, 0) =
          some (.inl (N, data, true, (p : Int), (p : Int), 3, true, (p : Int), data)) := by
        refine (loop_next (n := BIG - 1) (s' := (N, data, true, (p : Int), (p : Int), 3, true, (p : Int), data, 1)) ?_).trans (loop_exit (n := BIG - 2) ?_)
        · unfold whol1
          exact cnd_t rfl (bndL (s := ((p : Int), data, 5, 0, 0)) (bndL (s := true) (bnd (ixO_of (i := 0) (n := 1) (by omega)) (bnd rfl (cnd_t rfl (by simp)))) (cnd_t rfl rfl)) (bnd hd (cnd_f rfl (bnd (x := 1) (by rw [wrap_i64 (by omega) (by omega)]; rfl) rfl))))
        · unfold whol1; exact cnd_f rfl rfl
      have hkb : wherrykeep_Bytes data data = some true := by rw [keepBytes_eq _ _ (by omega)]; simp
      rw [htk]
      refine loop_exit ?_
      unfold wholS
      exact bnd (x := ((P + 3 : Nat) : Int)) (by rw [wP]) (cnd_t hlt (bnd tk (cnd_f rfl (bndL lp (cnd_t rfl (bndL (s := true) (bnd hkb (cnd_t rfl (bnd wakes21 rfl))) rfl))))))
    · obtain ⟨n, hn⟩ : ∃ n, n = min 7 (P - p) := ⟨_, rfl⟩
      have hwd : wnd (T_Send.mk N data true (p : Int) (p : Int) (w : Int) false) = ((p + n : Nat) : Int) := by
        rw [wnd_eq _ (by simp) (by show (p : Int) ≤ 100000; omega), pc]
        show (if (P : Int) < (p : Int) + 7 then (P : Int) else (p : Int) + 7) = _
        split <;> omega
      have e : tickF (T_Send.mk N data true (p : Int) (p : Int) (w : Int) false) = (T_Send.mk N data true (p : Int) ((p + n : Nat) : Int) 3 false, frames (T_Send.mk N data true (p : Int) (p : Int) (w : Int) false) p n) := by
        unfold tickF
        rw [if_neg (by simp), if_neg (by rw [pc]; simp; omega), if_pos (by rw [hwd]; show (p : Int) < _; omega)]
        rw [hwd]
        simp only [Int.toNat_natCast]
        rw [show p + n - p = n by omega]
      rw [e] at tk
      have lp := whol_win N data (T_Send.mk N data true (p : Int) ((p + n : Nat) : Int) 3 false) p n P (by omega) (by omega) (by omega) (by omega) hdl h1 hN (T_Send.mk N data true (p : Int) (p : Int) (w : Int) false) ⟨rfl, rfl⟩ n BIG 0 (by omega) (by omega) (by unfold BIG; omega)
      have lp' : loopF (whol1 N data (T_Send.mk N data true (p : Int) ((p + n : Nat) : Int) 3 false, frames (T_Send.mk N data true (p : Int) (p : Int) (w : Int) false) p n, 0)) BIG (N, data, true, (p : Int), ((p + n : Nat) : Int), 3, false, (p : Int), data.take (48 * p), 0) = _ := lp
      obtain ⟨w', hw', hw'0, lw⟩ : ∃ w' : Nat, w' ≤ 3 ∧ (p + n = P → w' = 0) ∧ loopF (whol2 (P : Int)) BIG (N, data, true, ((p + n : Nat) : Int), ((p + n : Nat) : Int), 3, false) = some (.inl (N, data, true, ((p + n : Nat) : Int), ((p + n : Nat) : Int), (w' : Int), false)) := by
        by_cases hq : p + n = P
        · refine ⟨0, by omega, fun _ => rfl, ?_⟩
          rw [hq]
          exact wait_loop N data false rfl 3 BIG (by omega) (by unfold BIG; omega) (rt P P 3 (by omega) (by omega) (by omega) (by omega) (by omega)) (pc _ _ _ _ _)
        · refine ⟨3, by omega, fun h => absurd h hq, ?_⟩
          exact zero_wait (T_Send.mk N data true ((p + n : Nat) : Int) ((p + n : Nat) : Int) 3 false) (BIG - 1) (by
            have : ((((p + n : Nat) : Int)) == (P : Int)) = false := by simp; omega
            show cond ((((p + n : Nat) : Int)) == (P : Int)) _ _ = false
            rw [this]; rfl)
      have step : wholS N data (P : Int) (N, data, true, (p : Int), (p : Int), (w : Int), false, (p : Int), data.take (48 * p), (i : Int)) = some (.inl (N, data, true, ((p + n : Nat) : Int), ((p + n : Nat) : Int), (w' : Int), false, ((p + n : Nat) : Int), data.take (48 * (p + n)), ((i + 1 : Nat) : Int))) := by
        unfold wholS
        exact bnd (x := ((P + 3 : Nat) : Int)) (by rw [wP]) (cnd_t hlt (bnd tk (cnd_f rfl (bndL lp' (cnd_f rfl (bndL lw (bnd (x := ((i + 1 : Nat) : Int)) (by rw [w1]) rfl)))))))
      rw [loop_next step]
      exact ih (P - (p + n)) (by omega) f (p + n) (i + 1) w' rfl (by omega) hw' hw'0 (by omega) (by omega)

theorem senderWhole_true (number : Int) (data : List Int) (from_ : Int) : wherrylaw21_SenderWhole number data from_ = some true := by
  unfold wherrylaw21_SenderWhole
  by_cases h1 : 2000 < data.length
  · exact cnd_t (by simp; omega) rfl
  obtain ⟨m, hm, hrem⟩ := u64_mod number 65535 (by omega) (by omega)
  have w0 : IntKind.i64.wrap (m : Int) = (m : Int) := wrap_i64 (by omega) (by omega)
  have w1 : IntKind.i64.wrap (1 + (m : Int)) = ((m + 1 : Nat) : Int) := by rw [wrap_i64 (by omega) (by omega)]; omega
  refine cnd_f (by simp; omega) (bnd rfl (bnd hrem (bnd (x := (m : Int)) (by rw [w0]) (bnd (x := ((m + 1 : Nat) : Int)) (by rw [w1]) (bnd (new_eq _ data (by omega)) ?_)))))
  cases hok : sendOk (T_Send.mk ((m + 1 : Nat) : Int) data false 0 0 0 false) with
  | false =>
    have hd : data.length = 0 := by
      apply Classical.byContradiction
      intro hne
      have : Rt (T_Send.mk ((m + 1 : Nat) : Int) data false 0 0 0 false) := ⟨by show (1 : Int) ≤ ((m + 1 : Nat) : Int); omega, by show ((m + 1 : Nat) : Int) ≤ 65535; omega, by show 1 ≤ data.length; omega, by show data.length ≤ 5000; omega, by simp, by simp [pcs]; omega, by simp, by simp, by simp [pcs]; omega, by simp, by simp, .inr ⟨rfl, rfl⟩⟩
      rw [ok_of this] at hok; cases hok
    exact cnd_t rfl (bndL (s := true) (cnd_t rfl (cnd_t (by rw [hd]; rfl) (bnd wakes21 rfl))) rfl)
  | true =>
    have hr := rt_of hok
    have l1 := hr.l1
    have l2 := hr.l2
    dsimp only at l1 l2
    obtain ⟨P, hP⟩ : ∃ P, P = (data.length + 47) / 48 := ⟨_, rfl⟩
    have hpc : pcs (T_Send.mk ((m + 1 : Nat) : Int) data false 0 0 0 false) = (P : Int) := by rw [hP]; rfl
    have hPs : sender_Pieces (T_Send.mk ((m + 1 : Nat) : Int) data false 0 0 0 false) = some (P : Int) := by
      unfold sender_Pieces
      exact bnd (check_rt hr) (cnd_f rfl (bnd (pieces_eq _ (by show data.length ≤ 100000; omega)) (by rw [hpc])))
    obtain ⟨p, hp, hrp⟩ := u64_mod from_ P (by omega) (by omega)
    have w2 : IntKind.i64.wrap (p : Int) = (p : Int) := wrap_i64 (by omega) (by omega)
    have w3 : IntKind.i64.wrap ((p : Int) * 48) = ((48 * p : Nat) : Int) := by rw [wrap_i64 (by omega) (by omega)]; omega
    have hsl : sliO data 0 ((48 * p : Nat) : Int) = some (data.take (48 * p)) := by
      unfold sliO
      rw [if_pos (by omega)]
      simp only [Int.toNat_natCast, Int.toNat_zero, List.drop_zero, Nat.sub_zero]
    have hap : appO 1 ([] : List Int) (data.take (48 * p)) = some (data.take (48 * p)) := by
      simp only [appO]
      rw [if_pos (by rw [List.length_take]; simp; omega)]
      rfl
    refine cnd_f rfl (bnd hPs (cnd_f (by simp; omega) (bnd rfl (bnd rfl (bnd hrp (bnd (x := (p : Int)) (by rw [w2]) (bnd (x := ((48 * p : Nat) : Int)) (by rw [w3]) (bnd hsl (bnd hap (bndR (a := true) ?_ rfl))))))))))
    have hlen : (data.take (48 * p)).length = 48 * p := by rw [List.length_take]; omega
    have wP : IntKind.i64.wrap ((P : Int) + 3) = ((P + 3 : Nat) : Int) := by rw [wrap_i64 (by omega) (by omega)]; simp
    have e : tickF (T_Send.mk ((m + 1 : Nat) : Int) data false 0 0 0 false) = (T_Send.mk ((m + 1 : Nat) : Int) data false 0 0 3 false, [helloF (T_Send.mk ((m + 1 : Nat) : Int) data false 0 0 0 false)]) := by
      unfold tickF
      rw [if_neg (by simp), if_pos (.inl rfl), if_neg (by simp)]
    have tk := tick_eq hr
    rw [e] at tk
    have hr3 := rt_tick hr
    rw [e] at hr3
    have hrd := ready_at (T_Send.mk ((m + 1 : Nat) : Int) data false 0 0 3 false) l2 p (by show _ ≤ pcs (T_Send.mk ((m + 1 : Nat) : Int) data false 0 0 0 false); rw [hpc]; omega)
    have hmin : min (48 * p) data.length = 48 * p := by omega
    dsimp only at hrd
    rw [hmin] at hrd
    have hh := hear_ready hr3 rfl (48 * p) (by omega) _ hrd
    dsimp only [cond_true] at hh
    have lp : loopF (whol1 ((m + 1 : Nat) : Int) data (T_Send.mk ((m + 1 : Nat) : Int) data false 0 0 3 false, [helloF (T_Send.mk ((m + 1 : Nat) : Int) data false 0 0 0 false)], 0)) BIG (((m + 1 : Nat) : Int), data, false, 0, 0, 3, false, (p : Int), data.take (48 * p), 0) =
        some (.inl (((m + 1 : Nat) : Int), data, true, (p : Int), (p : Int), 0, false, (p : Int), data.take (48 * p))) := by
      refine (loop_next (n := BIG - 1) (s' := (((m + 1 : Nat) : Int), data, true, (p : Int), (p : Int), 0, false, (p : Int), data.take (48 * p), 1)) ?_).trans (loop_exit (n := BIG - 2) ?_)
      · unfold whol1
        refine cnd_t rfl (bndL (s := ((p : Int), data.take (48 * p), 2, ((48 * p : Nat) : Int), 0)) (bndL (s := false) (bnd (ixO_of (i := 0) (n := 1) (by omega)) (bnd rfl (cnd_t rfl ?_))) (cnd_f rfl (bnd (ixO_of (i := 0) (n := 1) (by omega)) (bnd rfl (cnd_t rfl (by rw [hlen])))))) (bnd hh (cnd_f rfl (bnd (x := 1) (by rw [wrap_i64 (by omega) (by omega)]; rfl) rfl))))
        rw [hlen]
        have : (((48 * p : Nat) : Int) == (data.length : Int)) = false := by simp; omega
        rw [this]
      · unfold whol1; exact cnd_f rfl rfl
    have lw : loopF (whol2 (P : Int)) BIG (((m + 1 : Nat) : Int), data, true, (p : Int), (p : Int), 0, false) = some (.inl (((m + 1 : Nat) : Int), data, true, (p : Int), (p : Int), 0, false)) :=
      zero_wait (T_Send.mk ((m + 1 : Nat) : Int) data true (p : Int) (p : Int) 0 false) (BIG - 1) (by
        show cond ((p : Int) == (P : Int)) _ _ = false
        cases ((p : Int) == (P : Int)) <;> rfl)
    have step : wholS ((m + 1 : Nat) : Int) data (P : Int) (((m + 1 : Nat) : Int), data, false, 0, 0, 0, false, (p : Int), data.take (48 * p), 0) = some (.inl (((m + 1 : Nat) : Int), data, true, (p : Int), (p : Int), 0, false, (p : Int), data.take (48 * p), ((1 : Nat) : Int))) := by
      unfold wholS
      exact bnd (x := ((P + 3 : Nat) : Int)) (by rw [wP]) (cnd_t (by simp; omega) (bnd tk (cnd_f rfl (bndL lp (cnd_f rfl (bndL lw (bnd (x := ((1 : Nat) : Int)) (by rw [wrap_i64 (by omega) (by omega)]; rfl) rfl)))))))
    refine (loop_next (n := BIG - 1) step).trans ?_
    exact whol_loop _ data P hP (by omega) l1 ⟨by omega, by omega⟩ (P - p) (BIG - 1) p 1 0 rfl (by omega) (by omega) (fun _ => rfl) (by unfold BIG; omega) (by omega)
end Go.Abs.Sh
