import Derived.Test.YtbioodcjmceefaaDixA
namespace Go.Abs.Sh
set_option linter.unusedVariables false
set_option linter.unusedSimpArgs false
def dxS (l : List T_wherrylaw18_Act) : ((Int × (List T_Rec) × Int × Int × Int × Int × Bool × Int × Int × Int × (List T_Rec) × Int × Bool × Int × Int × Int × Int × Int)) → Option ((Int × (List T_Rec) × Int × Int × Int × Int × Bool × Int × Int × Int × (List T_Rec) × Int × Bool × Int × Int × Int × Int × Int) ⊕ ((Unit) ⊕ Bool)) := (fun ((s412, s413, s414, s415, s416, s417, s418, s419, s420, s421, s422, s423, s424, s425, s426, s427, s428, s429) : Int × (List T_Rec) × Int × Int × Int × Int × Bool × Int × Int × Int × (List T_Rec) × Int × Bool × Int × Int × Int × Int × Int) =>
              cond ((decide (s429 < (l.length : Int))))
                ((ixO s429 l.length).bind fun v15 =>
                (getO l v15).bind fun v16 =>
                (wherrylaw18_Heavy v16.Recs).bind fun v17 =>
                cond (v17)
                  (some (.inr (.inr (true))))
                  ((wherrykeep_TwinRecs_oo v16.Recs).bind fun v19 =>
                  bindS (S := Int × (List T_Rec) × Int × Int × Int × Int × Bool × Int × Int × Int × (List T_Rec) × Int × Bool × Int × Int × Int × Int × Int × Int) (A := ((Int × (List T_Rec) × Int × Int × Int × Int × Bool × Int × Int × Int × (List T_Rec) × Int × Bool × Int × Int × Int × Int × Int) ⊕ ((Unit) ⊕ Bool)))
                    ((some (IntKind.u64.wrap v16.Kind)).bind fun v20 =>
                    (remO v20 6).bind fun v21 =>
                    bindS (S := Int × (List T_Rec) × Int × Int × Int × Int × Bool × Int × Int × Int × (List T_Rec) × Int × Bool × Int × Int × Int × Int × Int × Int) (A := ((Int × (List T_Rec) × Int × Int × Int × Int × Bool × Int × Int × Int × (List T_Rec) × Int × Bool × Int × Int × Int × Int × Int × Int) ⊕ ((Int × (List T_Rec) × Int × Int × Int × Int × Bool × Int × Int × Int × (List T_Rec) × Int × Bool × Int × Int × Int × Int × Int) ⊕ ((Unit) ⊕ Bool))))
                      (cond ((v21 == 0))
                        (cond ((decide (0 < (v19.length : Int))))
                          ((ixO 0 v19.length).bind fun v24 =>
                          (getO v19 v24).bind fun v25 =>
                          (diary_Diary_Put (T_diary_Diary.mk s412 s413 s414 s415 s416 s417 s418 s419 s420) v25).bind fun v26 =>
                          (ixO 0 v16.Recs.length).bind fun v27 =>
                          (getO v16.Recs v27).bind fun v28 =>
                          (wherryref18_Diary_Put (T_wherryref18_Diary.mk s421 s422 s423 s424 s425 s426 s427 s428) ((T_Rec.mk v28.Kind ((T_Mail.mk (T_Path.mk v28.Mail.From.Null v28.Mail.From.Local v28.Mail.From.Domain) v28.Mail.To v28.Mail.Body v28.Mail.Quiet v28.Mail.Helo v28.Mail.At)) v28.Id v28.Ids v28.Origin v28.Number v28.Offset v28.Data))).bind fun v29 =>
                          some (.inl (v26.2.limit, v26.2.recs, v26.2.used, v26.2.safe, v26.2.kept, v26.2.life, v26.2.off, v26.2.trip, v26.2.tripKeep, v29.2.Limit, v29.2.Recs, v29.2.Sure, v29.2.IsOff, v29.2.Lives, v29.2.Left, v29.2.Keep, v29.2.Kept, v26.1, v29.1)))
                          (some (.inl (s412, s413, s414, s415, s416, s417, s418, s419, s420, s421, s422, s423, s424, s425, s426, s427, s428, 0, 0))))
                        (cond ((v21 == 1))
                          ((diary_Diary_Sync (T_diary_Diary.mk s412 s413 s414 s415 s416 s417 s418 s419 s420)).bind fun v31 =>
                          (wherryref18_Diary_Sync (T_wherryref18_Diary.mk s421 s422 s423 s424 s425 s426 s427 s428)).bind fun v32 =>
                          some (.inl (v31.2.limit, v31.2.recs, v31.2.used, v31.2.safe, v31.2.kept, v31.2.life, v31.2.off, v31.2.trip, v31.2.tripKeep, v32.2.Limit, v32.2.Recs, v32.2.Sure, v32.2.IsOff, v32.2.Lives, v32.2.Left, v32.2.Keep, v32.2.Kept, v31.1, v32.1)))
                          (cond ((v21 == 2))
                            ((diary_Diary_Renew (T_diary_Diary.mk s412 s413 s414 s415 s416 s417 s418 s419 s420) v19).bind fun v34 =>
                            (wherryref18_Diary_Renew (T_wherryref18_Diary.mk s421 s422 s423 s424 s425 s426 s427 s428) v16.Recs).bind fun v35 =>
                            some (.inl (v34.2.limit, v34.2.recs, v34.2.used, v34.2.safe, v34.2.kept, v34.2.life, v34.2.off, v34.2.trip, v34.2.tripKeep, v35.2.Limit, v35.2.Recs, v35.2.Sure, v35.2.IsOff, v35.2.Lives, v35.2.Left, v35.2.Keep, v35.2.Kept, v34.1, v35.1)))
                            (cond ((v21 == 3))
                              ((diary_Diary_Crash (T_diary_Diary.mk s412 s413 s414 s415 s416 s417 s418 s419 s420) v16.Keep).bind fun v37 =>
                              (wherryref18_Diary_Crash (T_wherryref18_Diary.mk s421 s422 s423 s424 s425 s426 s427 s428) v16.Keep).bind fun v38 =>
                              some (.inl (v37.limit, v37.recs, v37.used, v37.safe, v37.kept, v37.life, v37.off, v37.trip, v37.tripKeep, v38.Limit, v38.Recs, v38.Sure, v38.IsOff, v38.Lives, v38.Left, v38.Keep, v38.Kept, 0, 0)))
                              (cond ((v21 == 4))
                                ((diary_Diary_Trip (T_diary_Diary.mk s412 s413 s414 s415 s416 s417 s418 s419 s420) v16.N v16.Keep).bind fun v40 =>
                                (wherryref18_Diary_Trip (T_wherryref18_Diary.mk s421 s422 s423 s424 s425 s426 s427 s428) v16.N v16.Keep).bind fun v41 =>
                                some (.inl (v40.limit, v40.recs, v40.used, v40.safe, v40.kept, v40.life, v40.off, v40.trip, v40.tripKeep, v41.Limit, v41.Recs, v41.Sure, v41.IsOff, v41.Lives, v41.Left, v41.Keep, v41.Kept, 0, 0)))
                                ((diary_Diary_Start (T_diary_Diary.mk s412 s413 s414 s415 s416 s417 s418 s419 s420)).bind fun v42 =>
                                (wherryref18_Diary_Start (T_wherryref18_Diary.mk s421 s422 s423 s424 s425 s426 s427 s428)).bind fun v43 =>
                                some (.inl (v42.limit, v42.recs, v42.used, v42.safe, v42.kept, v42.life, v42.off, v42.trip, v42.tripKeep, v43.Limit, v43.Recs, v43.Sure, v43.IsOff, v43.Lives, v43.Left, v43.Keep, v43.Kept, 0, 0))))))))
                      (fun ((s671, s672, s673, s674, s675, s676, s677, s678, s679, s680, s681, s682, s683, s684, s685, s686, s687, s688, s689) : Int × (List T_Rec) × Int × Int × Int × Int × Bool × Int × Int × Int × (List T_Rec) × Int × Bool × Int × Int × Int × Int × Int × Int) =>
                        some (.inl (s671, s672, s673, s674, s675, s676, s677, s678, s679, s680, s681, s682, s683, s684, s685, s686, s687, s688, s689))) some)
                    (fun ((s643, s644, s645, s646, s647, s648, s649, s650, s651, s652, s653, s654, s655, s656, s657, s658, s659, s660, s661) : Int × (List T_Rec) × Int × Int × Int × Int × Bool × Int × Int × Int × (List T_Rec) × Int × Bool × Int × Int × Int × Int × Int × Int) =>
                      bindS (S := Int × (List T_Rec) × Int × Int × Int × Int × Bool × Int × Int × Int × (List T_Rec) × Int × Bool × Int × Int × Int × Int × Bool) (A := ((Int × (List T_Rec) × Int × Int × Int × Int × Bool × Int × Int × Int × (List T_Rec) × Int × Bool × Int × Int × Int × Int × Int) ⊕ ((Unit) ⊕ Bool)))
                        (cond ((s660 != s661))
                          (some (.inl (s643, s644, s645, s646, s647, s648, s649, s650, s651, s652, s653, s654, s655, s656, s657, s658, s659, true)))
                          ((wherrykeep_Recs v19 v16.Recs).bind fun v128 =>
                          cond ((!v128))
                            (some (.inl (s643, s644, s645, s646, s647, s648, s649, s650, s651, s652, s653, s654, s655, s656, s657, s658, s659, true)))
                            ((wherrylaw18_same (T_diary_Diary.mk s643 s644 s645 s646 s647 s648 s649 s650 s651) (T_wherryref18_Diary.mk s652 s653 s654 s655 s656 s657 s658 s659)).bind fun v129 =>
                            some (.inl ((v129.2.1.limit, v129.2.1.recs, v129.2.1.used, v129.2.1.safe, v129.2.1.kept, v129.2.1.life, v129.2.1.off, v129.2.1.trip, v129.2.1.tripKeep, v129.2.2.Limit, v129.2.2.Recs, v129.2.2.Sure, v129.2.2.IsOff, v129.2.2.Lives, v129.2.2.Left, v129.2.2.Keep, v129.2.2.Kept, (!v129.1)))))))
                        (fun ((s699, s700, s701, s702, s703, s704, s705, s706, s707, s708, s709, s710, s711, s712, s713, s714, s715, s716) : Int × (List T_Rec) × Int × Int × Int × Int × Bool × Int × Int × Int × (List T_Rec) × Int × Bool × Int × Int × Int × Int × Bool) =>
                          cond (s716)
                            (some (.inr (.inr (false))))
                            (bindS (S := (Unit)) (A := ((Int × (List T_Rec) × Int × Int × Int × Int × Bool × Int × Int × Int × (List T_Rec) × Int × Bool × Int × Int × Int × Int × Int) ⊕ ((Unit) ⊕ Bool)))
                              (loopF (S := ((List T_Rec) × Int)) (O := (Unit) ⊕ ((Int × (List T_Rec) × Int × Int × Int × Int × Bool × Int × Int × Int × (List T_Rec) × Int × Bool × Int × Int × Int × Int × Int) ⊕ ((Unit) ⊕ Bool))) (fun ((s725, s726) : (List T_Rec) × Int) =>
                                cond ((decide (s726 < (s725.length : Int))))
                                  ((ixO s726 s725.length).bind fun v153 =>
                                  (getO s725 v153).bind fun v154 =>
                                  (wherrykeep_Over_row v154.Data).bind fun v155 =>
                                  (ixO s726 ((s725.set v153 ((T_Rec.mk v154.Kind ((T_Mail.mk (T_Path.mk v154.Mail.From.Null v154.Mail.From.Local v154.Mail.From.Domain) v154.Mail.To v154.Mail.Body v154.Mail.Quiet v154.Mail.Helo v154.Mail.At)) v154.Id v154.Ids v154.Origin v154.Number v154.Offset v155)))).length).bind fun v156 =>
                                  (getO ((s725.set v153 ((T_Rec.mk v154.Kind ((T_Mail.mk (T_Path.mk v154.Mail.From.Null v154.Mail.From.Local v154.Mail.From.Domain) v154.Mail.To v154.Mail.Body v154.Mail.Quiet v154.Mail.Helo v154.Mail.At)) v154.Id v154.Ids v154.Origin v154.Number v154.Offset v155)))) v156).bind fun v157 =>
                                  (wherrykeep_Over_row v157.Mail.Body).bind fun v158 =>
                                  (some (IntKind.i64.wrap (s726 + 1))).bind fun v159 =>
                                  some (.inl (((((s725.set v153 ((T_Rec.mk v154.Kind ((T_Mail.mk (T_Path.mk v154.Mail.From.Null v154.Mail.From.Local v154.Mail.From.Domain) v154.Mail.To v154.Mail.Body v154.Mail.Quiet v154.Mail.Helo v154.Mail.At)) v154.Id v154.Ids v154.Origin v154.Number v154.Offset v155)))).set v156 ((T_Rec.mk v157.Kind ((T_Mail.mk (T_Path.mk v157.Mail.From.Null v157.Mail.From.Local v157.Mail.From.Domain) v157.Mail.To v158 v157.Mail.Quiet v157.Mail.Helo v157.Mail.At)) v157.Id v157.Ids v157.Origin v157.Number v157.Offset v157.Data))), v159))))
                                  (some (.inr (.inl ()))))
                                BIG (v19, 0))
                              (fun (() : Unit) =>
                                bindS (S := Int × (List T_Rec) × Int × Int × Int × Int × Bool × Int × Int) (A := ((Int × (List T_Rec) × Int × Int × Int × Int × Bool × Int × Int × Int × (List T_Rec) × Int × Bool × Int × Int × Int × Int × Int) ⊕ ((Unit) ⊕ Bool)))
                                  ((diary_Diary_Read (T_diary_Diary.mk s699 s700 s701 s702 s703 s704 s705 s706 s707)).bind fun v173 =>
                                  cond ((v173.2.1 == 0))
                                    (bindS (S := (Unit)) (A := ((Int × (List T_Rec) × Int × Int × Int × Int × Bool × Int × Int) ⊕ ((Int × (List T_Rec) × Int × Int × Int × Int × Bool × Int × Int × Int × (List T_Rec) × Int × Bool × Int × Int × Int × Int × Int) ⊕ ((Unit) ⊕ Bool))))
                                      (loopF (S := ((List T_Rec) × Int)) (O := (Unit) ⊕ ((Int × (List T_Rec) × Int × Int × Int × Int × Bool × Int × Int) ⊕ ((Int × (List T_Rec) × Int × Int × Int × Int × Bool × Int × Int × Int × (List T_Rec) × Int × Bool × Int × Int × Int × Int × Int) ⊕ ((Unit) ⊕ Bool)))) (fun ((s767, s768) : (List T_Rec) × Int) =>
                                        cond ((decide (s768 < (s767.length : Int))))
                                          ((ixO s768 s767.length).bind fun v176 =>
                                          (getO s767 v176).bind fun v177 =>
                                          (wherrykeep_Over_row v177.Data).bind fun v178 =>
                                          (some (IntKind.i64.wrap (s768 + 1))).bind fun v179 =>
                                          some (.inl (((s767.set v176 ((T_Rec.mk v177.Kind ((T_Mail.mk (T_Path.mk v177.Mail.From.Null v177.Mail.From.Local v177.Mail.From.Domain) v177.Mail.To v177.Mail.Body v177.Mail.Quiet v177.Mail.Helo v177.Mail.At)) v177.Id v177.Ids v177.Origin v177.Number v177.Offset v178))), v179))))
                                          (some (.inr (.inl ()))))
                                        BIG (v173.1, 0))
                                      (fun (() : Unit) =>
                                        some (.inl (v173.2.2.limit, v173.2.2.recs, v173.2.2.used, v173.2.2.safe, v173.2.2.kept, v173.2.2.life, v173.2.2.off, v173.2.2.trip, v173.2.2.tripKeep))) some)
                                    (some (.inl (v173.2.2.limit, v173.2.2.recs, v173.2.2.used, v173.2.2.safe, v173.2.2.kept, v173.2.2.life, v173.2.2.off, v173.2.2.trip, v173.2.2.tripKeep))))
                                  (fun ((s750, s751, s752, s753, s754, s755, s756, s757, s758) : Int × (List T_Rec) × Int × Int × Int × Int × Bool × Int × Int) =>
                                    (wherrylaw18_same (T_diary_Diary.mk s750 s751 s752 s753 s754 s755 s756 s757 s758) (T_wherryref18_Diary.mk s708 s709 s710 s711 s712 s713 s714 s715)).bind fun v220 =>
                                    cond ((!v220.1))
                                      (some (.inr (.inr (false))))
                                      ((some (IntKind.i64.wrap (s429 + 1))).bind fun v222 =>
                                      some (.inl (v220.2.1.limit, v220.2.1.recs, v220.2.1.used, v220.2.1.safe, v220.2.1.kept, v220.2.1.life, v220.2.1.off, v220.2.1.trip, v220.2.1.tripKeep, v220.2.2.Limit, v220.2.2.Recs, v220.2.2.Sure, v220.2.2.IsOff, v220.2.2.Lives, v220.2.2.Left, v220.2.2.Keep, v220.2.2.Kept, v222)))) some) some)) some) some))
                (some (.inr (.inl ()))))
def dxI : (((List T_Rec) × Int)) → Option (((List T_Rec) × Int) ⊕ ((Unit) ⊕ ((Int × (List T_Rec) × Int × Int × Int × Int × Bool × Int × Int × Int × (List T_Rec) × Int × Bool × Int × Int × Int × Int × Int) ⊕ ((Unit) ⊕ Bool)))) := (fun ((s725, s726) : (List T_Rec) × Int) =>
                                cond ((decide (s726 < (s725.length : Int))))
                                  ((ixO s726 s725.length).bind fun v153 =>
                                  (getO s725 v153).bind fun v154 =>
                                  (wherrykeep_Over_row v154.Data).bind fun v155 =>
                                  (ixO s726 ((s725.set v153 ((T_Rec.mk v154.Kind ((T_Mail.mk (T_Path.mk v154.Mail.From.Null v154.Mail.From.Local v154.Mail.From.Domain) v154.Mail.To v154.Mail.Body v154.Mail.Quiet v154.Mail.Helo v154.Mail.At)) v154.Id v154.Ids v154.Origin v154.Number v154.Offset v155)))).length).bind fun v156 =>
                                  (getO ((s725.set v153 ((T_Rec.mk v154.Kind ((T_Mail.mk (T_Path.mk v154.Mail.From.Null v154.Mail.From.Local v154.Mail.From.Domain) v154.Mail.To v154.Mail.Body v154.Mail.Quiet v154.Mail.Helo v154.Mail.At)) v154.Id v154.Ids v154.Origin v154.Number v154.Offset v155)))) v156).bind fun v157 =>
                                  (wherrykeep_Over_row v157.Mail.Body).bind fun v158 =>
                                  (some (IntKind.i64.wrap (s726 + 1))).bind fun v159 =>
                                  some (.inl (((((s725.set v153 ((T_Rec.mk v154.Kind ((T_Mail.mk (T_Path.mk v154.Mail.From.Null v154.Mail.From.Local v154.Mail.From.Domain) v154.Mail.To v154.Mail.Body v154.Mail.Quiet v154.Mail.Helo v154.Mail.At)) v154.Id v154.Ids v154.Origin v154.Number v154.Offset v155)))).set v156 ((T_Rec.mk v157.Kind ((T_Mail.mk (T_Path.mk v157.Mail.From.Null v157.Mail.From.Local v157.Mail.From.Domain) v157.Mail.To v158 v157.Mail.Quiet v157.Mail.Helo v157.Mail.At)) v157.Id v157.Ids v157.Origin v157.Number v157.Offset v157.Data))), v159))))
                                  (some (.inr (.inl ()))))
def dxX : (((List T_Rec) × Int)) → Option (((List T_Rec) × Int) ⊕ ((Unit) ⊕ ((Int × (List T_Rec) × Int × Int × Int × Int × Bool × Int × Int) ⊕ ((Int × (List T_Rec) × Int × Int × Int × Int × Bool × Int × Int × Int × (List T_Rec) × Int × Bool × Int × Int × Int × Int × Int) ⊕ ((Unit) ⊕ Bool))))) := (fun ((s767, s768) : (List T_Rec) × Int) =>
                                        cond ((decide (s768 < (s767.length : Int))))
                                          ((ixO s768 s767.length).bind fun v176 =>
                                          (getO s767 v176).bind fun v177 =>
                                          (wherrykeep_Over_row v177.Data).bind fun v178 =>
                                          (some (IntKind.i64.wrap (s768 + 1))).bind fun v179 =>
                                          some (.inl (((s767.set v176 ((T_Rec.mk v177.Kind ((T_Mail.mk (T_Path.mk v177.Mail.From.Null v177.Mail.From.Local v177.Mail.From.Domain) v177.Mail.To v177.Mail.Body v177.Mail.Quiet v177.Mail.Helo v177.Mail.At)) v177.Id v177.Ids v177.Origin v177.Number v177.Offset v178))), v179))))
                                          (some (.inr (.inl ()))))
def dxW (v16 : T_wherrylaw18_Act) (v19 : List T_Rec) (s412 : Int) (s413 : (List T_Rec)) (s414 : Int) (s415 : Int) (s416 : Int) (s417 : Int) (s418 : Bool) (s419 : Int) (s420 : Int) (s421 : Int) (s422 : (List T_Rec)) (s423 : Int) (s424 : Bool) (s425 : Int) (s426 : Int) (s427 : Int) (s428 : Int) : Option ((Int × (List T_Rec) × Int × Int × Int × Int × Bool × Int × Int × Int × (List T_Rec) × Int × Bool × Int × Int × Int × Int × Int × Int) ⊕ (((Int × (List T_Rec) × Int × Int × Int × Int × Bool × Int × Int × Int × (List T_Rec) × Int × Bool × Int × Int × Int × Int × Int) ⊕ ((Unit) ⊕ Bool)))) :=
  ((some (IntKind.u64.wrap v16.Kind)).bind fun v20 =>
                    (remO v20 6).bind fun v21 =>
                    bindS (S := Int × (List T_Rec) × Int × Int × Int × Int × Bool × Int × Int × Int × (List T_Rec) × Int × Bool × Int × Int × Int × Int × Int × Int) (A := ((Int × (List T_Rec) × Int × Int × Int × Int × Bool × Int × Int × Int × (List T_Rec) × Int × Bool × Int × Int × Int × Int × Int × Int) ⊕ ((Int × (List T_Rec) × Int × Int × Int × Int × Bool × Int × Int × Int × (List T_Rec) × Int × Bool × Int × Int × Int × Int × Int) ⊕ ((Unit) ⊕ Bool))))
                      (cond ((v21 == 0))
                        (cond ((decide (0 < (v19.length : Int))))
                          ((ixO 0 v19.length).bind fun v24 =>
                          (getO v19 v24).bind fun v25 =>
                          (diary_Diary_Put (T_diary_Diary.mk s412 s413 s414 s415 s416 s417 s418 s419 s420) v25).bind fun v26 =>
                          (ixO 0 v16.Recs.length).bind fun v27 =>
                          (getO v16.Recs v27).bind fun v28 =>
                          (wherryref18_Diary_Put (T_wherryref18_Diary.mk s421 s422 s423 s424 s425 s426 s427 s428) ((T_Rec.mk v28.Kind ((T_Mail.mk (T_Path.mk v28.Mail.From.Null v28.Mail.From.Local v28.Mail.From.Domain) v28.Mail.To v28.Mail.Body v28.Mail.Quiet v28.Mail.Helo v28.Mail.At)) v28.Id v28.Ids v28.Origin v28.Number v28.Offset v28.Data))).bind fun v29 =>
                          some (.inl (v26.2.limit, v26.2.recs, v26.2.used, v26.2.safe, v26.2.kept, v26.2.life, v26.2.off, v26.2.trip, v26.2.tripKeep, v29.2.Limit, v29.2.Recs, v29.2.Sure, v29.2.IsOff, v29.2.Lives, v29.2.Left, v29.2.Keep, v29.2.Kept, v26.1, v29.1)))
                          (some (.inl (s412, s413, s414, s415, s416, s417, s418, s419, s420, s421, s422, s423, s424, s425, s426, s427, s428, 0, 0))))
                        (cond ((v21 == 1))
                          ((diary_Diary_Sync (T_diary_Diary.mk s412 s413 s414 s415 s416 s417 s418 s419 s420)).bind fun v31 =>
                          (wherryref18_Diary_Sync (T_wherryref18_Diary.mk s421 s422 s423 s424 s425 s426 s427 s428)).bind fun v32 =>
                          some (.inl (v31.2.limit, v31.2.recs, v31.2.used, v31.2.safe, v31.2.kept, v31.2.life, v31.2.off, v31.2.trip, v31.2.tripKeep, v32.2.Limit, v32.2.Recs, v32.2.Sure, v32.2.IsOff, v32.2.Lives, v32.2.Left, v32.2.Keep, v32.2.Kept, v31.1, v32.1)))
                          (cond ((v21 == 2))
                            ((diary_Diary_Renew (T_diary_Diary.mk s412 s413 s414 s415 s416 s417 s418 s419 s420) v19).bind fun v34 =>
                            (wherryref18_Diary_Renew (T_wherryref18_Diary.mk s421 s422 s423 s424 s425 s426 s427 s428) v16.Recs).bind fun v35 =>
                            some (.inl (v34.2.limit, v34.2.recs, v34.2.used, v34.2.safe, v34.2.kept, v34.2.life, v34.2.off, v34.2.trip, v34.2.tripKeep, v35.2.Limit, v35.2.Recs, v35.2.Sure, v35.2.IsOff, v35.2.Lives, v35.2.Left, v35.2.Keep, v35.2.Kept, v34.1, v35.1)))
                            (cond ((v21 == 3))
                              ((diary_Diary_Crash (T_diary_Diary.mk s412 s413 s414 s415 s416 s417 s418 s419 s420) v16.Keep).bind fun v37 =>
                              (wherryref18_Diary_Crash (T_wherryref18_Diary.mk s421 s422 s423 s424 s425 s426 s427 s428) v16.Keep).bind fun v38 =>
                              some (.inl (v37.limit, v37.recs, v37.used, v37.safe, v37.kept, v37.life, v37.off, v37.trip, v37.tripKeep, v38.Limit, v38.Recs, v38.Sure, v38.IsOff, v38.Lives, v38.Left, v38.Keep, v38.Kept, 0, 0)))
                              (cond ((v21 == 4))
                                ((diary_Diary_Trip (T_diary_Diary.mk s412 s413 s414 s415 s416 s417 s418 s419 s420) v16.N v16.Keep).bind fun v40 =>
                                (wherryref18_Diary_Trip (T_wherryref18_Diary.mk s421 s422 s423 s424 s425 s426 s427 s428) v16.N v16.Keep).bind fun v41 =>
                                some (.inl (v40.limit, v40.recs, v40.used, v40.safe, v40.kept, v40.life, v40.off, v40.trip, v40.tripKeep, v41.Limit, v41.Recs, v41.Sure, v41.IsOff, v41.Lives, v41.Left, v41.Keep, v41.Kept, 0, 0)))
                                ((diary_Diary_Start (T_diary_Diary.mk s412 s413 s414 s415 s416 s417 s418 s419 s420)).bind fun v42 =>
                                (wherryref18_Diary_Start (T_wherryref18_Diary.mk s421 s422 s423 s424 s425 s426 s427 s428)).bind fun v43 =>
                                some (.inl (v42.limit, v42.recs, v42.used, v42.safe, v42.kept, v42.life, v42.off, v42.trip, v42.tripKeep, v43.Limit, v43.Recs, v43.Sure, v43.IsOff, v43.Lives, v43.Left, v43.Keep, v43.Kept, 0, 0))))))))
                      (fun ((s671, s672, s673, s674, s675, s676, s677, s678, s679, s680, s681, s682, s683, s684, s685, s686, s687, s688, s689) : Int × (List T_Rec) × Int × Int × Int × Int × Bool × Int × Int × Int × (List T_Rec) × Int × Bool × Int × Int × Int × Int × Int × Int) =>
                        some (.inl (s671, s672, s673, s674, s675, s676, s677, s678, s679, s680, s681, s682, s683, s684, s685, s686, s687, s688, s689))) some)
theorem dxI_run (rs : List T_Rec) (hr : ∀ r ∈ rs, LR r) (hn : rs.length ≤ 1000) : loopF dxI BIG (rs, 0) = some (.inl ()) := by
  obtain ⟨o, ho, rfl⟩ := loop_inv (f := dxI) (fun k s => s.1.length = rs.length ∧ s.2 = (k : Int) ∧ ∀ j, k ≤ j → s.1[j]? = rs[j]?) (fun o => o = .inl ()) rs.length 0 BIG (rs, 0) (Nat.zero_le _) (by simp only [BIG]; omega) ⟨rfl, rfl, fun _ _ => rfl⟩
    (fun i s hi hI => by
      obtain ⟨x, k⟩ := s
      obtain ⟨hl, rfl, hx⟩ := hI
      simp only at hl hx
      have hg : getO x i = some rs[i] := by
        show x[i]? = _
        rw [hx i (Nat.le_refl _), List.getElem?_eq_getElem hi]
      have hix : ixO (i : Int) x.length = some i := ixO_of (by omega)
      obtain ⟨h1, h2, h3, h4⟩ := hr rs[i] (List.getElem_mem _)
      simp only [mW] at h4
      obtain ⟨c, hc⟩ := over_ex rs[i].Data (by omega)
      obtain ⟨c2, hc2⟩ := over_ex rs[i].Mail.Body (by omega)
      have hg2 : ∀ y : T_Rec, getO (x.set i y) i = some y := fun y => by
        show (x.set i y)[i]? = _
        rw [List.getElem?_set_self (by omega)]
      refine .inl ⟨_, cnd_t (decide_eq_true (by omega)) (bnd hix (bnd hg (bnd hc (bnd (by rw [List.length_set]; exact hix) (bnd (hg2 _) (bnd hc2 (bnd (congrArg some (wrap_succ (by omega))) rfl))))))), ?_, rfl, ?_⟩
      · simpa using hl
      · intro j hj
        simp only
        rw [List.getElem?_set_ne (by omega), List.getElem?_set_ne (by omega)]
        exact hx j (by omega))
    (fun s hI => by
      obtain ⟨x, k⟩ := s
      obtain ⟨hl, rfl, hx⟩ := hI
      simp only at hl
      exact ⟨_, cnd_f (decide_eq_false (by omega)) rfl, rfl⟩)
  exact ho
theorem dxX_run (rs : List T_Rec) (hr : ∀ r ∈ rs, LR r) (hn : rs.length ≤ 1000) : loopF dxX BIG (rs, 0) = some (.inl ()) := by
  obtain ⟨o, ho, rfl⟩ := loop_inv (f := dxX) (fun k s => s.1.length = rs.length ∧ s.2 = (k : Int) ∧ ∀ j, k ≤ j → s.1[j]? = rs[j]?) (fun o => o = .inl ()) rs.length 0 BIG (rs, 0) (Nat.zero_le _) (by simp only [BIG]; omega) ⟨rfl, rfl, fun _ _ => rfl⟩
    (fun i s hi hI => by
      obtain ⟨x, k⟩ := s
      obtain ⟨hl, rfl, hx⟩ := hI
      simp only at hl hx
      have hg : getO x i = some rs[i] := by
        show x[i]? = _
        rw [hx i (Nat.le_refl _), List.getElem?_eq_getElem hi]
      have hix : ixO (i : Int) x.length = some i := ixO_of (by omega)
      obtain ⟨h1, h2, h3, h4⟩ := hr rs[i] (List.getElem_mem _)
      obtain ⟨c, hc⟩ := over_ex rs[i].Data (by omega)
      refine .inl ⟨_, cnd_t (decide_eq_true (by omega)) (bnd hix (bnd hg (bnd hc (bnd (congrArg some (wrap_succ (by omega))) rfl)))), ?_, rfl, ?_⟩
      · simpa using hl
      · intro j hj
        simp only
        rw [List.getElem?_set_ne (by omega)]
        exact hx j (by omega))
    (fun s hI => by
      obtain ⟨x, k⟩ := s
      obtain ⟨hl, rfl, hx⟩ := hI
      simp only at hl
      exact ⟨_, cnd_f (decide_eq_false (by omega)) rfl, rfl⟩)
  exact ho
theorem kind_cases (k : Int) : ∃ n : Nat, n < 6 ∧ remO (IntKind.u64.wrap k) 6 = some ((n : Nat) : Int) := by
  have h0 : 0 ≤ IntKind.u64.wrap k := by
    simp only [IntKind.wrap, IntKind.bits, IntKind.signed, Bool.false_and, Bool.false_eq_true, if_false]
    exact Int.emod_nonneg _ (by decide)
  refine ⟨(IntKind.u64.wrap k).toNat % 6, Nat.mod_lt _ (by omega), ?_⟩
  obtain ⟨m, hm⟩ : ∃ m : Nat, IntKind.u64.wrap k = (m : Int) := ⟨_, (Int.toNat_of_nonneg h0).symm⟩
  rw [hm, Int.toNat_natCast]
  exact rem_nat m 6 (by omega)
theorem dxW_run {i : Nat} (hi : i ≤ 40) {D : T_diary_Diary} {E : T_wherryref18_Diary} (h : Rl i D E) (a : T_wherrylaw18_Act) (hl : ∀ r ∈ a.Recs, LR r) (hn : a.Recs.length ≤ 60) (hN : a.N < 9223372036854775808) :
    ∃ (e : Int) (D' : T_diary_Diary) (E' : T_wherryref18_Diary), Rl (i + 1) D' E' ∧ dxW a a.Recs D.limit D.recs D.used D.safe D.kept D.life D.off D.trip D.tripKeep E.Limit E.Recs E.Sure E.IsOff E.Lives E.Left E.Keep E.Kept = some (.inl (D'.limit, D'.recs, D'.used, D'.safe, D'.kept, D'.life, D'.off, D'.trip, D'.tripKeep, E'.Limit, E'.Recs, E'.Sure, E'.IsOff, E'.Lives, E'.Left, E'.Keep, E'.Kept, e, e)) := by
  obtain ⟨n, hn6, hrem⟩ := kind_cases a.Kind
  have hz : n = 0 ∨ n = 1 ∨ n = 2 ∨ n = 3 ∨ n = 4 ∨ n = 5 := by omega
  rcases hz with rfl | rfl | rfl | rfl | rfl | rfl
  · by_cases h0 : a.Recs = []
    · refine ⟨0, D, E, h.mono, ?_⟩
      refine bnd rfl (bnd hrem (bndL (cnd_t rfl (cnd_f (by rw [h0]; rfl) rfl)) rfl))
    · have hpos : 0 < a.Recs.length := List.length_pos_iff.2 h0
      obtain ⟨e, D', E', p1, p2, p3⟩ := put_two hi h (hl a.Recs[0] (List.getElem_mem _))
      have hix : ixO 0 a.Recs.length = some 0 := ixO_of (i := 0) hpos
      have hg : getO a.Recs 0 = some a.Recs[0] := by simp [getO, List.getElem?_eq_getElem hpos]
      refine ⟨e, D', E', p3, ?_⟩
      exact bnd rfl (bnd hrem (bndL (cnd_t rfl (cnd_t (decide_eq_true (by omega)) (bnd hix (bnd hg (bnd p1 (bnd hix (bnd hg (bnd p2 rfl)))))))) rfl))
  · obtain ⟨e, D', E', p1, p2, p3⟩ := sync_two hi h
    exact ⟨e, D', E', p3, bnd rfl (bnd hrem (bndL (cnd_f rfl (cnd_t rfl (bnd p1 (bnd p2 rfl)))) rfl))⟩
  · obtain ⟨e, D', E', p1, p2, p3⟩ := renew_two hi h hl hn
    exact ⟨e, D', E', p3, bnd rfl (bnd hrem (bndL (cnd_f rfl (cnd_f rfl (cnd_t rfl (bnd p1 (bnd p2 rfl))))) rfl))⟩
  · obtain ⟨D', E', p1, p2, p3⟩ := crash_two hi h a.Keep
    exact ⟨0, D', E', p3, bnd rfl (bnd hrem (bndL (cnd_f rfl (cnd_f rfl (cnd_f rfl (cnd_t rfl (bnd p1 (bnd p2 rfl)))))) rfl))⟩
  · obtain ⟨D', E', p1, p2, p3⟩ := trip_two h a.N a.Keep hN
    exact ⟨0, D', E', p3, bnd rfl (bnd hrem (bndL (cnd_f rfl (cnd_f rfl (cnd_f rfl (cnd_f rfl (cnd_t rfl (bnd p1 (bnd p2 rfl))))))) rfl))⟩
  · obtain ⟨D', E', p1, p2, p3⟩ := start_two h
    exact ⟨0, D', E', p3, bnd rfl (bnd hrem (bndL (cnd_f rfl (cnd_f rfl (cnd_f rfl (cnd_f rfl (cnd_f rfl (bnd p1 (bnd p2 rfl))))))) rfl))⟩
theorem dxS_step {i : Nat} (l : List T_wherrylaw18_Act) (hi : i < l.length) (hl40 : l.length ≤ 40) (hw : T_wherrylaw18_Act.wz l[i]) {D : T_diary_Diary} {E : T_wherryref18_Diary} (h : Rl i D E) :
    (∃ (D' : T_diary_Diary) (E' : T_wherryref18_Diary), Rl (i + 1) D' E' ∧ dxS l (D.limit, D.recs, D.used, D.safe, D.kept, D.life, D.off, D.trip, D.tripKeep, E.Limit, E.Recs, E.Sure, E.IsOff, E.Lives, E.Left, E.Keep, E.Kept, (i : Int)) = some (.inl (D'.limit, D'.recs, D'.used, D'.safe, D'.kept, D'.life, D'.off, D'.trip, D'.tripKeep, E'.Limit, E'.Recs, E'.Sure, E'.IsOff, E'.Lives, E'.Left, E'.Keep, E'.Kept, ((i + 1 : Nat) : Int)))) ∨ dxS l (D.limit, D.recs, D.used, D.safe, D.kept, D.life, D.off, D.trip, D.tripKeep, E.Limit, E.Recs, E.Sure, E.IsOff, E.Lives, E.Left, E.Keep, E.Kept, (i : Int)) = some (.inr (.inr true)) := by
  have hix : ixO (i : Int) l.length = some i := ixO_of hi
  have hg : getO l i = some l[i] := by simp [getO, hi]
  obtain ⟨hw1, hw2, hw3, hw4⟩ := hw
  obtain ⟨b, hb, hlt⟩ := heavy18 l[i].Recs (fun r hq => re_of (hw2.2 r hq)) (by have := hw2.1; simp only [reachBytes] at this; omega)
  cases b with
  | true => exact .inr (cnd_t (decide_eq_true (by omega)) (bnd hix (bnd hg (bnd hb (cnd_t rfl rfl)))))
  | false =>
    obtain ⟨hn, hr⟩ := hlt rfl
    have hN : l[i].N < 9223372036854775808 := by
      simp only [wfI, Lit.wf, IntKind.min, IntKind.max, IntKind.signed, IntKind.bits] at hw3
      have h2 : -9223372036854775808 ≤ l[i].N ∧ l[i].N ≤ 9223372036854775807 := by simpa using hw3
      omega
    obtain ⟨e, D', E', hR, hsw⟩ := dxW_run (by omega) h l[i] hr hn hN
    refine .inl ⟨D', E', hR, ?_⟩
    have hsm := same_two (by omega) hR
    have htail : ∃ x c, diary_Diary_Read D' = some (x, c, D') ∧ ((c == 0) = true → ∀ r ∈ x, LR r) ∧ x.length ≤ 1000 := by
      obtain ⟨L, rs, s, K, F, off, t, k1, k2, rfl, rfl, h3, h4, h5, h6, h7, h8, h9, h10⟩ := hR
      cases off with
      | true => exact ⟨[], 7, rfl, fun h => by simp at h, by simp⟩
      | false => exact ⟨rs, 0, readx_on _ rfl h10 (by simp only; omega), fun _ => h10, by omega⟩
    obtain ⟨x, c, hrd, hxl, hxn⟩ := htail
    refine cnd_t (decide_eq_true (by omega)) (bnd hix (bnd hg (bnd hb (cnd_f rfl (bnd (twinso_eq _ hr (by omega)) (bndL hsw ?_))))))
    refine bndL (s := (D'.limit, D'.recs, D'.used, D'.safe, D'.kept, D'.life, D'.off, D'.trip, D'.tripKeep, E'.Limit, E'.Recs, E'.Sure, E'.IsOff, E'.Lives, E'.Left, E'.Keep, E'.Kept, false)) (cnd_f (by simp) (bnd (recs_refl _ hr (by omega)) (cnd_f rfl (bnd hsm rfl)))) (cnd_f rfl (bndL (dxI_run _ hr (by omega)) ?_))
    refine bndL (s := (D'.limit, D'.recs, D'.used, D'.safe, D'.kept, D'.life, D'.off, D'.trip, D'.tripKeep)) (bnd hrd ?_) (bnd hsm (cnd_f rfl (bnd (congrArg some (wrap_succ (by omega))) rfl)))
    cases hc : (c == 0) with
    | true => exact bndL (dxX_run x (hxl hc) hxn) rfl
    | false => rfl
theorem rnew_eq (n : Int) : wherryref18_New n = some (if n < 1 ∨ 131072 < n then (none, 1) else (some (T_wherryref18_Diary.mk n [] 0 false 0 0 0 0), 0)) := by
  simp only [wherryref18_New]
  have hin : wherryref18_in n 1 131072 = some (decide (1 ≤ n) && decide (n ≤ 131072)) := by
    simp only [wherryref18_in]
    by_cases h : 1 ≤ n
    · exact bndL (cnd_t (decide_eq_true h) (by rw [decide_eq_true h, Bool.true_and])) rfl
    · exact bndL (cnd_f (decide_eq_false h) (by rw [decide_eq_false h, Bool.false_and])) rfl
  refine bnd hin ?_
  by_cases h : n < 1 ∨ 131072 < n
  · rw [if_pos h]
    refine cnd_t ?_ rfl
    simp; omega
  · rw [if_neg h]
    refine cnd_f ?_ rfl
    simp; omega
theorem diaryExact_true (limit : Int) (l : List T_wherrylaw18_Act) (hl : wzL 48 T_wherrylaw18_Act.wz l) : wherrylaw18_DiaryExact limit l = some true := by
  simp only [wherrylaw18_DiaryExact]
  by_cases h40 : l.length ≤ 40
  case neg => exact cnd_t (decide_eq_true (by omega)) rfl
  refine cnd_f (decide_eq_false (by omega)) (bnd (new_eq limit) ?_)
  by_cases h : limit < 1 ∨ 131072 < limit
  · rw [if_pos h]
    refine obn rfl (bnd (rnew_eq limit) ?_)
    rw [if_pos h]
    exact obn rfl (bndL (s := false) rfl (cnd_f rfl (bnd wakes18 rfl)))
  · rw [if_neg h]
    refine obs rfl (bnd (rnew_eq limit) ?_)
    rw [if_neg h]
    refine obs rfl (bndL (s := false) rfl (cnd_f rfl ?_))
    have hrun := loop_inv (f := dxS l) (fun k s => ∃ (D : T_diary_Diary) (E : T_wherryref18_Diary), Rl k D E ∧ s = (D.limit, D.recs, D.used, D.safe, D.kept, D.life, D.off, D.trip, D.tripKeep, E.Limit, E.Recs, E.Sure, E.IsOff, E.Lives, E.Left, E.Keep, E.Kept, (k : Int))) (fun o => o = .inl () ∨ o = .inr true) l.length 0 BIG (limit, [], 0, 0, 0, 0, false, 0, 0, limit, [], 0, false, 0, 0, 0, 0, 0) (Nat.zero_le _) (by simp only [BIG]; omega)
      ⟨T_diary_Diary.mk limit [] 0 0 0 0 false 0 0, T_wherryref18_Diary.mk limit [] 0 false 0 0 0 0, ⟨limit, [], 0, 0, 0, false, 0, 0, 0, rfl, rfl, fun _ => rfl, by simp, by simp, by omega, by omega, by omega, by omega, by simp⟩, rfl⟩
      (fun i s hi hI => by
        obtain ⟨D, E, hR, rfl⟩ := hI
        rcases dxS_step l hi h40 (hl.2 l[i] (List.getElem_mem _)) hR with ⟨D', E', h1, h2⟩ | h2
        · exact .inl ⟨_, h2, D', E', h1, rfl⟩
        · exact .inr ⟨_, h2, .inr rfl⟩)
      (fun s hI => by
        obtain ⟨D, E, hR, rfl⟩ := hI
        exact ⟨_, cnd_f (decide_eq_false (by omega)) rfl, .inl rfl⟩)
    obtain ⟨o, ho, rfl | rfl⟩ := hrun
    · exact bndL ho (bnd wakes18 rfl)
    · exact bndR ho rfl
end Go.Abs.Sh
