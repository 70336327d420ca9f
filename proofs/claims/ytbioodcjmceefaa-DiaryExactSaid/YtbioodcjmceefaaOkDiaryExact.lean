/-
  The model's runs are what is told in Lean.
-/
import Derived.Test.YtbioodcjmceefaaProg
import Derived.KernelRfl
import Derived.Test.YtbioodcjmceefaaBG
import Derived.Test.YtbioodcjmceefaaC1
import Derived.Test.YtbioodcjmceefaaBB
import Derived.Test.YtbioodcjmceefaaOkc4
set_option linter.unusedVariables false
set_option linter.unusedSimpArgs false
set_option maxHeartbeats 1000000
namespace Go.Proofs.Ytbioodcjmceefaa
open Go.Abs Go.Abs.Sh Try

theorem ok_wherrylaw18_DiaryExact (limit : Int) (l : (List T_wherrylaw18_Act)) (r : Bool) (h : Sh.wherrylaw18_DiaryExact limit l = some r) : FnOK Try.prog 3 [.v (.int .i64 limit), .fr .shr true 4 (List.flatten (List.map T_wherrylaw18_Act.ienc l))] (.v (.bool r)) := by
  unfold Sh.wherrylaw18_DiaryExact at h
  refine yO 182 func3 fun g0 hn hio => ?_
  refine yyy hn 1 [0,1] ?_
  refine ht_seq ?_
  refine yyy hn 3 [0,1,20] ?_
  refine ht_cond _ rfl (fun hb1 => ?_) (fun hb1 => ?_)
  ·have h := cond_t hb1 h
   refine yyy hn 1 [4] ?_
   refine ht_ret ?_
   refine pt_r_then ?_
   obtain rfl := Option.some.inj h
   exact pt_ret hio rfl (.tmp _ _ .nil) rfl rfl
  ·have h := cond_f hb1 h
   refine ht_skip ?_
   refine pt_then (ht_seq ?_)
   obtain ⟨v2, hv2, h⟩ := bind_some h
   refine yx hn 1 ?_
   refine ys 0 ⟨lk call10 (ok_diary_New _ _ hv2)⟩ ?_
   refine ym 0 ?_
   refine yx_ 1 ?_
   refine ya 1 ?_
   refine ye [0,1,5,6] ?_
   refine pt_ob (d := default) (f := fun (v3 : T_diary_Diary) => [.v (.int .i64 v3.limit), .fr (.own 46) false 15 (List.flatten (List.map T_Rec.ienc v3.recs)), .v (.int .i64 v3.used), .v (.int .i64 v3.safe), .v (.int .i64 v3.kept), .v (.int .i64 v3.life), .v (.bool v3.off), .v (.int .i64 v3.trip), .v (.int .i64 v3.tripKeep)]) 2 9 5 64 h (es1 := fun v3 => [(0, .v (.int .i64 limit)), (1, .fr .shr true 4 (List.flatten (List.map T_wherrylaw18_Act.ienc l))), (5, .box 64 [.v (.int .i64 v3.limit), .fr (.own 46) false 15 (List.flatten (List.map T_Rec.ienc v3.recs)), .v (.int .i64 v3.used), .v (.int .i64 v3.safe), .v (.int .i64 v3.kept), .v (.int .i64 v3.life), .v (.bool v3.off), .v (.int .i64 v3.trip), .v (.int .i64 v3.tripKeep)]), (6, .v (.int .i64 v2.2))]) (es0 := [(0, .v (.int .i64 limit)), (1, .fr .shr true 4 (List.flatten (List.map T_wherrylaw18_Act.ienc l))), (5, .v (.pointer none)), (6, .v (.int .i64 v2.2))]) rfl (fun _ => rfl) (by kernel_rfl) (fun _ => rfl) (fun _ => rfl) rfl (fun v3 hv4 h => ?_) (fun hv4 h => ?_)
   ·refine pt_then (ht_seq ?_)
    obtain ⟨v5, hv5, h⟩ := bind_some h
    refine yx hn 1 ?_
    refine ys 0 ⟨lk call11 (ok_wherryref18_New _ _ hv5)⟩ ?_
    refine ym 0 ?_
    refine yx_ 1 ?_
    refine ya 1 ?_
    refine ye [1,5,6,7,8] ?_
    refine pt_ob (d := default) (f := fun (v6 : T_wherryref18_Diary) => [.v (.int .i64 v6.Limit), .fr (.own 46) false 15 (List.flatten (List.map T_Rec.ienc v6.Recs)), .v (.int .i64 v6.Sure), .v (.bool v6.IsOff), .v (.int .i64 v6.Lives), .v (.int .i64 v6.Left), .v (.int .i64 v6.Keep), .v (.int .i64 v6.Kept)]) 3 8 7 67 h (es1 := fun v6 => [(1, .fr .shr true 4 (List.flatten (List.map T_wherrylaw18_Act.ienc l))), (5, .box 64 [.v (.int .i64 v3.limit), .fr (.own 46) false 15 (List.flatten (List.map T_Rec.ienc v3.recs)), .v (.int .i64 v3.used), .v (.int .i64 v3.safe), .v (.int .i64 v3.kept), .v (.int .i64 v3.life), .v (.bool v3.off), .v (.int .i64 v3.trip), .v (.int .i64 v3.tripKeep)]), (6, .v (.int .i64 v2.2)), (7, .box 67 [.v (.int .i64 v6.Limit), .fr (.own 46) false 15 (List.flatten (List.map T_Rec.ienc v6.Recs)), .v (.int .i64 v6.Sure), .v (.bool v6.IsOff), .v (.int .i64 v6.Lives), .v (.int .i64 v6.Left), .v (.int .i64 v6.Keep), .v (.int .i64 v6.Kept)]), (8, .v (.int .i64 v5.2))]) (es0 := [(1, .fr .shr true 4 (List.flatten (List.map T_wherrylaw18_Act.ienc l))), (5, .box 64 [.v (.int .i64 v3.limit), .fr (.own 46) false 15 (List.flatten (List.map T_Rec.ienc v3.recs)), .v (.int .i64 v3.used), .v (.int .i64 v3.safe), .v (.int .i64 v3.kept), .v (.int .i64 v3.life), .v (.bool v3.off), .v (.int .i64 v3.trip), .v (.int .i64 v3.tripKeep)]), (6, .v (.int .i64 v2.2)), (7, .v (.pointer none)), (8, .v (.int .i64 v5.2))]) rfl (fun _ => rfl) (by kernel_rfl) (fun _ => rfl) (fun _ => rfl) rfl (fun v6 hv7 h => ?_) (fun hv7 h => ?_)
    ·refine pt_then (ht_seq ?_)
     refine ht_seq ?_
     refine ht_joinS h (fun (s9 : Bool) => [(1, .fr .shr true 4 (List.flatten (List.map T_wherrylaw18_Act.ienc l))), (5, .box 64 [.v (.int .i64 v3.limit), .fr (.own 46) false 15 (List.flatten (List.map T_Rec.ienc v3.recs)), .v (.int .i64 v3.used), .v (.int .i64 v3.safe), .v (.int .i64 v3.kept), .v (.int .i64 v3.life), .v (.bool v3.off), .v (.int .i64 v3.trip), .v (.int .i64 v3.tripKeep)]), (7, .box 67 [.v (.int .i64 v6.Limit), .fr (.own 46) false 15 (List.flatten (List.map T_Rec.ienc v6.Recs)), .v (.int .i64 v6.Sure), .v (.bool v6.IsOff), .v (.int .i64 v6.Lives), .v (.int .i64 v6.Left), .v (.int .i64 v6.Keep), .v (.int .i64 v6.Kept)]), (40, .v (.bool s9))]) ?_ ?_
     ·rintro s9 h
      refine pt_then ?_
      refine ht_cond _ rfl (fun hb13 => ?_) (fun hb13 => ?_)
      ·have h := cond_t hb13 h
       refine yyy hn 1 [4] ?_
       refine ht_ret ?_
       refine pt_r_then ?_
       obtain rfl := Option.some.inj h
       exact pt_ret hio rfl (.tmp _ _ .nil) rfl rfl
      ·have h := cond_f hb13 h
       refine ht_skip ?_
       refine pt_then (ht_seq ?_)
       refine yxx hn 1 ?_
       refine yS (.v (.bool false)) 0 ⟨op_pnil _ _ false (by kernel_rfl) rfl rfl⟩ ?_
       refine yee [1,5,7,42] ?_
       refine ht_cond false rfl (fun hb => by cases hb) (fun _ => ?_)
       refine ht_skip ?_
       refine pt_then (ht_seq ?_)
       refine yyy hn 1 [1,5,7,9] ?_
       refine ht_loopS h (fun ((s412, s413, s414, s415, s416, s417, s418, s419, s420, s421, s422, s423, s424, s425, s426, s427, s428, s429) : Int × (List T_Rec) × Int × Int × Int × Int × Bool × Int × Int × Int × (List T_Rec) × Int × Bool × Int × Int × Int × Int × Int) => [(1, .fr .shr true 4 (List.flatten (List.map T_wherrylaw18_Act.ienc l))), (5, .box 64 [.v (.int .i64 s412), .fr (.own 46) false 15 (List.flatten (List.map T_Rec.ienc s413)), .v (.int .i64 s414), .v (.int .i64 s415), .v (.int .i64 s416), .v (.int .i64 s417), .v (.bool s418), .v (.int .i64 s419), .v (.int .i64 s420)]), (7, .box 67 [.v (.int .i64 s421), .fr (.own 46) false 15 (List.flatten (List.map T_Rec.ienc s422)), .v (.int .i64 s423), .v (.bool s424), .v (.int .i64 s425), .v (.int .i64 s426), .v (.int .i64 s427), .v (.int .i64 s428)]), (9, .v (.int .i64 s429))]) (fun (() : Unit) => []) ?_ ?_
       ·rintro ⟨⟩ h
        refine pt_then (ht_seq ?_)
        obtain ⟨v778, hv778, h⟩ := bind_some h
        refine yx hn 0 ?_
        refine ys 1 ⟨lk call12 (ok_wherrylaw18_wakes _ hv778)⟩ ?_
        refine yee [4] ?_
        refine ht_ret ?_
        obtain rfl := Option.some.inj h
        exact pt_ret hio rfl (.tmp _ _ .nil) rfl rfl
       ·rintro u601 hl602 hr603 ⟨s412, s413, s414, s415, s416, s417, s418, s419, s420, s421, s422, s423, s424, s425, s426, s427, s428, s429⟩ rr606 h ho604
        refine ht_seq ?_
        refine yyy hn 4 [1,5,7,9,47] ?_
        refine ht_cond _ rfl (fun hb607 => ?_) (fun hb607 => ?_)
        ·have h := cond_t hb607 h
         refine ht_skip ?_
         refine pt_then (ht_seq ?_)
         refine ht_block ?_
         refine ht_seq ?_
         obtain ⟨v15, hv15, h⟩ := bind_some h
         obtain ⟨v16, hv16, h⟩ := bind_some h
         refine yx hn 2 ?_
         refine ys 0 ⟨lI hv15⟩ ?_
         refine yS (.agg [.v (.int .i64 v16.Kind), .fr .shr true 15 (List.flatten (List.map T_Rec.ienc v16.Recs)), .v (.int .i64 v16.N), .v (.int .i64 v16.Keep)]) 0 ⟨op_loadA_fr _ _ _ _ _ _ _ _ underlying33 rfl sz33 rfl rfl (gflat_get T_wherrylaw18_Act.ilen hv16) (.cons (.v _) (.cons (.fr _ _) (.cons (.v _) (.cons (.v _) (.nil))))) rfl (by decide)⟩ ?_
         refine yS (.box 33 [.v (.int .i64 0), .v (.slice none 0 0), .v (.int .i64 0), .v (.int .i64 0)]) 1 ⟨oA (op_alloc _ _ zr33)⟩ ?_
         refine yee [1,5,7,9,10] ?_
         refine ht_seq ?_
         refine ht_seq ?_
         obtain ⟨v17, hv17, h⟩ := bind_some h
         refine yx hn 2 ?_
         refine ys 0 ⟨lk call13 (ok_wherrylaw18_Heavy _ _ hv17)⟩ ?_
         refine yee [1,5,7,9,10,56] ?_
         refine ht_cond _ rfl (fun hb608 => ?_) (fun hb608 => ?_)
         ·have h := cond_t hb608 h
          refine yyy hn 1 [4] ?_
          refine ht_ret ?_
          refine pt_r_then ?_
          refine pt_r_in ?_
          refine pt_r_then ?_
          refine pt_r_then ?_
          refine pt_r_in ?_
          refine pt_r_then ?_
          have h := hr603 _ (ho604 _ (Option.some.inj h).symm).symm
          obtain rfl := Option.some.inj h
          exact pt_ret hio rfl (.tmp _ _ .nil) rfl rfl
         ·have h := cond_f hb608 h
          refine ht_skip ?_
          refine pt_then (ht_seq ?_)
          obtain ⟨v19, hv19, h⟩ := bind_some h
          refine yx hn 2 ?_
          refine yS (.hid (ownJ 46 15 (List.flatten (List.map oe46 v19)))) 0 ⟨op_callO _ _ 14 _ rfl call14 rfl (ok_wherrykeep_TwinRecs_oo v16.Recs _ hv19) (oe_closed oe46_c _) (oe_noShr oe46_s _)⟩ ?_
          refine ya 0 ?_
          refine yee [1,5,7,9,10,11] ?_
          refine yyy hn 2 [1,5,7,9,10,11,12,13] ?_
          refine ht_seq ?_
          refine ht_joinS h (fun ((s643, s644, s645, s646, s647, s648, s649, s650, s651, s652, s653, s654, s655, s656, s657, s658, s659, s660, s661) : Int × (List T_Rec) × Int × Int × Int × Int × Bool × Int × Int × Int × (List T_Rec) × Int × Bool × Int × Int × Int × Int × Int × Int) => [(11, .hid (ownJ 46 15 (List.flatten (List.map oe46 v19)))), (1, .fr .shr true 4 (List.flatten (List.map T_wherrylaw18_Act.ienc l))), (5, .box 64 [.v (.int .i64 s643), .fr (.own 46) false 15 (List.flatten (List.map T_Rec.ienc s644)), .v (.int .i64 s645), .v (.int .i64 s646), .v (.int .i64 s647), .v (.int .i64 s648), .v (.bool s649), .v (.int .i64 s650), .v (.int .i64 s651)]), (7, .box 67 [.v (.int .i64 s652), .fr (.own 46) false 15 (List.flatten (List.map T_Rec.ienc s653)), .v (.int .i64 s654), .v (.bool s655), .v (.int .i64 s656), .v (.int .i64 s657), .v (.int .i64 s658), .v (.int .i64 s659)]), (9, .v (.int .i64 s429)), (10, .box 33 [.v (.int .i64 v16.Kind), .fr .shr true 15 (List.flatten (List.map T_Rec.ienc v16.Recs)), .v (.int .i64 v16.N), .v (.int .i64 v16.Keep)]), (12, .v (.int .i64 s660)), (13, .v (.int .i64 s661))]) ?_ ?_
          ·rintro ⟨s643, s644, s645, s646, s647, s648, s649, s650, s651, s652, s653, s654, s655, s656, s657, s658, s659, s660, s661⟩ h
           refine pt_then (ht_seq ?_)
           refine ht_seq ?_
           refine ht_joinS h (fun ((s699, s700, s701, s702, s703, s704, s705, s706, s707, s708, s709, s710, s711, s712, s713, s714, s715, s716) : Int × (List T_Rec) × Int × Int × Int × Int × Bool × Int × Int × Int × (List T_Rec) × Int × Bool × Int × Int × Int × Int × Bool) => [(11, .hid (ownJ 46 15 (List.flatten (List.map oe46 v19)))), (1, .fr .shr true 4 (List.flatten (List.map T_wherrylaw18_Act.ienc l))), (5, .box 64 [.v (.int .i64 s699), .fr (.own 46) false 15 (List.flatten (List.map T_Rec.ienc s700)), .v (.int .i64 s701), .v (.int .i64 s702), .v (.int .i64 s703), .v (.int .i64 s704), .v (.bool s705), .v (.int .i64 s706), .v (.int .i64 s707)]), (7, .box 67 [.v (.int .i64 s708), .fr (.own 46) false 15 (List.flatten (List.map T_Rec.ienc s709)), .v (.int .i64 s710), .v (.bool s711), .v (.int .i64 s712), .v (.int .i64 s713), .v (.int .i64 s714), .v (.int .i64 s715)]), (9, .v (.int .i64 s429)), (138, .v (.bool s716))]) ?_ ?_
           ·rintro ⟨s699, s700, s701, s702, s703, s704, s705, s706, s707, s708, s709, s710, s711, s712, s713, s714, s715, s716⟩ h
            refine pt_then ?_
            refine ht_cond _ rfl (fun hb720 => ?_) (fun hb720 => ?_)
            ·have h := cond_t hb720 h
             refine yyy hn 1 [4] ?_
             refine ht_ret ?_
             refine pt_r_then ?_
             refine pt_r_in ?_
             refine pt_r_then ?_
             refine pt_r_then ?_
             refine pt_r_in ?_
             refine pt_r_then ?_
             have h := hr603 _ (ho604 _ (Option.some.inj h).symm).symm
             obtain rfl := Option.some.inj h
             exact pt_ret hio rfl (.tmp _ _ .nil) rfl rfl
            ·have h := cond_f hb720 h
             refine ht_skip ?_
             refine pt_then (ht_seq ?_)
             refine yyy hn 1 [11,1,5,7,9,14] ?_
             refine ht_loopS h (fun ((s725, s726) : (List T_Rec) × Int) => [(11, .hid (ownJ 46 15 (List.flatten (List.map oe46 s725)))), (1, .fr .shr true 4 (List.flatten (List.map T_wherrylaw18_Act.ienc l))), (5, .box 64 [.v (.int .i64 s699), .fr (.own 46) false 15 (List.flatten (List.map T_Rec.ienc s700)), .v (.int .i64 s701), .v (.int .i64 s702), .v (.int .i64 s703), .v (.int .i64 s704), .v (.bool s705), .v (.int .i64 s706), .v (.int .i64 s707)]), (7, .box 67 [.v (.int .i64 s708), .fr (.own 46) false 15 (List.flatten (List.map T_Rec.ienc s709)), .v (.int .i64 s710), .v (.bool s711), .v (.int .i64 s712), .v (.int .i64 s713), .v (.int .i64 s714), .v (.int .i64 s715)]), (9, .v (.int .i64 s429)), (14, .v (.int .i64 s726))]) (fun (() : Unit) => [(1, .fr .shr true 4 (List.flatten (List.map T_wherrylaw18_Act.ienc l))), (5, .box 64 [.v (.int .i64 s699), .fr (.own 46) false 15 (List.flatten (List.map T_Rec.ienc s700)), .v (.int .i64 s701), .v (.int .i64 s702), .v (.int .i64 s703), .v (.int .i64 s704), .v (.bool s705), .v (.int .i64 s706), .v (.int .i64 s707)]), (7, .box 67 [.v (.int .i64 s708), .fr (.own 46) false 15 (List.flatten (List.map T_Rec.ienc s709)), .v (.int .i64 s710), .v (.bool s711), .v (.int .i64 s712), .v (.int .i64 s713), .v (.int .i64 s714), .v (.int .i64 s715)]), (9, .v (.int .i64 s429))]) ?_ ?_
             ·rintro ⟨⟩ h
              refine pt_then (ht_seq ?_)
              refine ht_joinS h (fun ((s750, s751, s752, s753, s754, s755, s756, s757, s758) : Int × (List T_Rec) × Int × Int × Int × Int × Bool × Int × Int) => [(1, .fr .shr true 4 (List.flatten (List.map T_wherrylaw18_Act.ienc l))), (5, .box 64 [.v (.int .i64 s750), .fr (.own 46) false 15 (List.flatten (List.map T_Rec.ienc s751)), .v (.int .i64 s752), .v (.int .i64 s753), .v (.int .i64 s754), .v (.int .i64 s755), .v (.bool s756), .v (.int .i64 s757), .v (.int .i64 s758)]), (7, .box 67 [.v (.int .i64 s708), .fr (.own 46) false 15 (List.flatten (List.map T_Rec.ienc s709)), .v (.int .i64 s710), .v (.bool s711), .v (.int .i64 s712), .v (.int .i64 s713), .v (.int .i64 s714), .v (.int .i64 s715)]), (9, .v (.int .i64 s429))]) ?_ ?_
              ·rintro ⟨s750, s751, s752, s753, s754, s755, s756, s757, s758⟩ h
               refine pt_then (ht_seq ?_)
               obtain ⟨v220, hv220, h⟩ := bind_some h
               refine yx hn 2 ?_
               refine yk [5,7] [177,178] ?_
               refine yn [(5, .box 64 [.v (.int .i64 v220.2.1.limit), .fr (.own 46) false 15 (List.flatten (List.map T_Rec.ienc v220.2.1.recs)), .v (.int .i64 v220.2.1.used), .v (.int .i64 v220.2.1.safe), .v (.int .i64 v220.2.1.kept), .v (.int .i64 v220.2.1.life), .v (.bool v220.2.1.off), .v (.int .i64 v220.2.1.trip), .v (.int .i64 v220.2.1.tripKeep)]), (7, .box 67 [.v (.int .i64 v220.2.2.Limit), .fr (.own 46) false 15 (List.flatten (List.map T_Rec.ienc v220.2.2.Recs)), .v (.int .i64 v220.2.2.Sure), .v (.bool v220.2.2.IsOff), .v (.int .i64 v220.2.2.Lives), .v (.int .i64 v220.2.2.Left), .v (.int .i64 v220.2.2.Keep), .v (.int .i64 v220.2.2.Kept)]), (179, .v (.bool v220.1))] 1 ⟨op_callP _ _ _ _ 179 28 [.tmp 177, .tmp 178] [] _ _ _ rfl call28 rfl rfl rfl (ok_wherrylaw18_same (T_diary_Diary.mk s750 s751 s752 s753 s754 s755 s756 s757 s758) (T_wherryref18_Diary.mk s708 s709 s710 s711 s712 s713 s714 s715) _ hv220) (zl rfl) rfl rfl rfl rfl rfl rfl rfl rfl⟩ ?_
               refine yee [1,5,7,9,180] ?_
               refine ht_cond _ rfl (fun hb777 => ?_) (fun hb777 => ?_)
               ·have h := cond_t hb777 h
                refine yyy hn 1 [4] ?_
                refine ht_ret ?_
                refine pt_r_in ?_
                refine pt_r_then ?_
                refine pt_r_then ?_
                refine pt_r_in ?_
                refine pt_r_then ?_
                have h := hr603 _ (ho604 _ (Option.some.inj h).symm).symm
                obtain rfl := Option.some.inj h
                exact pt_ret hio rfl (.tmp _ _ .nil) rfl rfl
               ·have h := cond_f hb777 h
                refine ht_skip ?_
                refine pt_inb ?_
                refine pt_then ?_
                obtain ⟨v222, hv222, h⟩ := bind_some h
                refine yx hn 1 ?_
                refine ys 0 ⟨lb hv222⟩ ?_
                refine yw [9] 1 ?_
                refine ye [1,5,7,9] ?_
                exact pt_next _ (Option.some.inj h).symm rfl
              ·intro u759 h hl760 hr761
               refine ht_seq ?_
               obtain ⟨v173, hv173, h⟩ := bind_some h
               refine yx hn 1 ?_
               refine yk [5] [159] ?_
               refine ytt (5, .box 64 [.v (.int .i64 v173.2.2.limit), .fr (.own 46) false 15 (List.flatten (List.map T_Rec.ienc v173.2.2.recs)), .v (.int .i64 v173.2.2.used), .v (.int .i64 v173.2.2.safe), .v (.int .i64 v173.2.2.kept), .v (.int .i64 v173.2.2.life), .v (.bool v173.2.2.off), .v (.int .i64 v173.2.2.trip), .v (.int .i64 v173.2.2.tripKeep)]) (160, .tup [.hid (ownJ 46 15 (List.flatten (List.map oe46 v173.1))), .v (.int .i64 v173.2.1)]) 0 ⟨op_callPL _ _ _ _ 160 30 [.tmp 159] [] _ _ _ rfl call30 rfl rfl lend_nil (ok_diary_Diary_Read (T_diary_Diary.mk s699 s700 s701 s702 s703 s704 s705 s706 s707) _ hv173) (zl rfl) rfl rfl rfl (noIm_tup (noIms_cons (noIm_hid (oe_closed oe46_c _) (oe_noShr oe46_s _)) (noIms_cons (noIm_of rfl rfl) (noIms_nil)))) (noIms_of rfl rfl) rfl rfl rfl⟩ ?_
               refine ym 0 ?_
               refine yx_ 1 ?_
               refine ya 1 ?_
               refine yee [1,5,7,9,15,16] ?_
               refine yyy hn 2 [1,5,7,9,15,164] ?_
               refine ht_cond _ rfl (fun hb762 => ?_) (fun hb762 => ?_)
               ·have h := cond_t hb762 h
                refine yyy hn 1 [1,5,7,9,15,17] ?_
                refine ht_loopS h (fun ((s767, s768) : (List T_Rec) × Int) => [(1, .fr .shr true 4 (List.flatten (List.map T_wherrylaw18_Act.ienc l))), (5, .box 64 [.v (.int .i64 v173.2.2.limit), .fr (.own 46) false 15 (List.flatten (List.map T_Rec.ienc v173.2.2.recs)), .v (.int .i64 v173.2.2.used), .v (.int .i64 v173.2.2.safe), .v (.int .i64 v173.2.2.kept), .v (.int .i64 v173.2.2.life), .v (.bool v173.2.2.off), .v (.int .i64 v173.2.2.trip), .v (.int .i64 v173.2.2.tripKeep)]), (7, .box 67 [.v (.int .i64 s708), .fr (.own 46) false 15 (List.flatten (List.map T_Rec.ienc s709)), .v (.int .i64 s710), .v (.bool s711), .v (.int .i64 s712), .v (.int .i64 s713), .v (.int .i64 s714), .v (.int .i64 s715)]), (9, .v (.int .i64 s429)), (15, .hid (ownJ 46 15 (List.flatten (List.map oe46 s767)))), (17, .v (.int .i64 s768))]) (fun (() : Unit) => [(1, .fr .shr true 4 (List.flatten (List.map T_wherrylaw18_Act.ienc l))), (5, .box 64 [.v (.int .i64 v173.2.2.limit), .fr (.own 46) false 15 (List.flatten (List.map T_Rec.ienc v173.2.2.recs)), .v (.int .i64 v173.2.2.used), .v (.int .i64 v173.2.2.safe), .v (.int .i64 v173.2.2.kept), .v (.int .i64 v173.2.2.life), .v (.bool v173.2.2.off), .v (.int .i64 v173.2.2.trip), .v (.int .i64 v173.2.2.tripKeep)]), (7, .box 67 [.v (.int .i64 s708), .fr (.own 46) false 15 (List.flatten (List.map T_Rec.ienc s709)), .v (.int .i64 s710), .v (.bool s711), .v (.int .i64 s712), .v (.int .i64 s713), .v (.int .i64 s714), .v (.int .i64 s715)]), (9, .v (.int .i64 s429))]) ?_ ?_
                ·rintro ⟨⟩ h
                 exact hl760 _ (Option.some.inj h).symm
                ·rintro u770 hl771 hr772 ⟨s767, s768⟩ rr775 h ho773
                 refine ht_seq ?_
                 refine yxx hn 1 ?_
                 refine yS (.same (.slot 15)) 0 ⟨op_move_name _ _ _ rfl⟩ ?_
                 refine yS (.v (.int .i64 (s767.length : Int))) 1 ⟨op_len_own _ _ _ underlying31 rfl (gflat_len oe46_l _) (by decide)⟩ ?_
                 refine yee [1,5,7,9,15,17,168] ?_
                 refine ht_cond _ rfl (fun hb776 => ?_) (fun hb776 => ?_)
                 ·have h := cond_t hb776 h
                  refine ht_skip ?_
                  refine pt_then (ht_seq ?_)
                  refine ht_block ?_
                  obtain ⟨v176, hv176, h⟩ := bind_some h
                  obtain ⟨v177, hv177, h⟩ := bind_some h
                  obtain ⟨v178, hv178, h⟩ := bind_some h
                  refine ht_pick [4, 0, 1, 2, 3, 5, 6] rfl rfl ?_
                  refine ht_openO 191 fun ov45 oh45 => ?_
                  refine yx hn 2 ?_
                  refine yS (.eref (.slot 15) (v176 * 15)) 1 ⟨op_ix _ _ _ _ _ _ _ _ underlying31 sz46 (by decide) rfl rfl rfl (ix_ok hv176).1 (oe_lt oe46_l oh45 (ix_ok hv176).2) rfl⟩ ?_
                  refine yS (.v (List.getD ov45 (v176 * 15 + 14) undef)) 0 ⟨op_load_e _ _ _ _ _ _ underlying41 rfl rfl rfl (oe_get (q := 14) oe46_l oh45 hv177 (by decide))⟩ ?_
                  refine yk [191] [175] ?_
                  refine ytt (191, .inv (ownI (List.flatten (List.map oe46 ((s767.set v176 ((T_Rec.mk v177.Kind ((T_Mail.mk (T_Path.mk v177.Mail.From.Null v177.Mail.From.Local v177.Mail.From.Domain) v177.Mail.To v177.Mail.Body v177.Mail.Quiet v177.Mail.Helo v177.Mail.At)) v177.Id v177.Ids v177.Origin v177.Number v177.Offset v178)))))) ov45)) (176, .tup []) 0 ⟨op_callElW _ _ 191 (v176 * 15 + 14) 29 (x := .tmp 175) (ys := []) _ _ rfl call29 rfl rfl (oe_get (q := 14) oe46_l oh45 hv177 (by decide)) (gflat_cell oe46_l hv177 rfl) (oe_set (q := 14) oe46_l hv177 (y := (T_Rec.mk v177.Kind ((T_Mail.mk (T_Path.mk v177.Mail.From.Null v177.Mail.From.Local v177.Mail.From.Domain) v177.Mail.To v177.Mail.Body v177.Mail.Quiet v177.Mail.Helo v177.Mail.At)) v177.Id v177.Ids v177.Origin v177.Number v177.Offset v178)) rfl (by decide)) rfl (ok_wherrykeep_Over_row v177.Data _ hv178) rfl rfl rfl⟩ ?_
                  refine ye [15,191,1,5,7,9,17] ?_
                  refine pt_closeO ?_
                  refine pt_inb ?_
                  refine pt_then ?_
                  obtain ⟨v179, hv179, h⟩ := bind_some h
                  refine yx hn 1 ?_
                  refine ys 0 ⟨lb hv179⟩ ?_
                  refine yw [17] 1 ?_
                  refine ye [15,1,5,7,9,17] ?_
                  refine pt_pick [1, 2, 3, 4, 0, 5] (by kernel_rfl) (es' := [(_,_),(_,_),(_,_),(_,_),(_,_),(_,_)]) rfl ?_
                  exact pt_next _ (Option.some.inj h).symm rfl
                 ·have h := cond_f hb776 h
                  refine ht_exit ?_
                  refine pt_x_then ?_
                  refine pt_x_then ?_
                  refine pt_x_in ?_
                  refine pt_pick [0, 1, 2, 3] (by kernel_rfl) (es' := [(_,_),(_,_),(_,_),(_,_)]) rfl ?_
                  exact hl771 _ (ho773 _ (Option.some.inj h).symm).symm
               ·have h := cond_f hb762 h
                refine ht_skip ?_
                refine pt_pick [0, 1, 2, 3] (by kernel_rfl) (es' := [(_,_),(_,_),(_,_),(_,_)]) rfl ?_
                exact hl760 _ (Option.some.inj h).symm
             ·rintro u728 hl729 hr730 ⟨s725, s726⟩ rr733 h ho731
              refine ht_seq ?_
              refine yxx hn 1 ?_
              refine yS (.same (.slot 11)) 0 ⟨op_move_name _ _ _ rfl⟩ ?_
              refine yS (.v (.int .i64 (s725.length : Int))) 1 ⟨op_len_own _ _ _ underlying31 rfl (gflat_len oe46_l _) (by decide)⟩ ?_
              refine yee [11,1,5,7,9,14,142] ?_
              refine ht_cond _ rfl (fun hb734 => ?_) (fun hb734 => ?_)
              ·have h := cond_t hb734 h
               refine ht_skip ?_
               refine pt_then (ht_seq ?_)
               refine ht_block ?_
               refine ht_seq ?_
               obtain ⟨v153, hv153, h⟩ := bind_some h
               obtain ⟨v154, hv154, h⟩ := bind_some h
               obtain ⟨v155, hv155, h⟩ := bind_some h
               refine ht_pick [0, 1, 2, 3, 4, 5, 6] rfl rfl ?_
               refine ht_openO 191 fun ov38 oh38 => ?_
               refine yx hn 2 ?_
               refine yS (.eref (.slot 11) (v153 * 15)) 1 ⟨op_ix _ _ _ _ _ _ _ _ underlying31 sz46 (by decide) rfl rfl rfl (ix_ok hv153).1 (oe_lt oe46_l oh38 (ix_ok hv153).2) rfl⟩ ?_
               refine yS (.v (List.getD ov38 (v153 * 15 + 14) undef)) 0 ⟨op_load_e _ _ _ _ _ _ underlying41 rfl rfl rfl (oe_get (q := 14) oe46_l oh38 hv154 (by decide))⟩ ?_
               refine yk [191] [149] ?_
               refine ytt (191, .inv (ownI (List.flatten (List.map oe46 ((s725.set v153 ((T_Rec.mk v154.Kind ((T_Mail.mk (T_Path.mk v154.Mail.From.Null v154.Mail.From.Local v154.Mail.From.Domain) v154.Mail.To v154.Mail.Body v154.Mail.Quiet v154.Mail.Helo v154.Mail.At)) v154.Id v154.Ids v154.Origin v154.Number v154.Offset v155)))))) ov38)) (150, .tup []) 0 ⟨op_callElW _ _ 191 (v153 * 15 + 14) 29 (x := .tmp 149) (ys := []) _ _ rfl call29 rfl rfl (oe_get (q := 14) oe46_l oh38 hv154 (by decide)) (gflat_cell oe46_l hv154 rfl) (oe_set (q := 14) oe46_l hv154 (y := (T_Rec.mk v154.Kind ((T_Mail.mk (T_Path.mk v154.Mail.From.Null v154.Mail.From.Local v154.Mail.From.Domain) v154.Mail.To v154.Mail.Body v154.Mail.Quiet v154.Mail.Helo v154.Mail.At)) v154.Id v154.Ids v154.Origin v154.Number v154.Offset v155)) rfl (by decide)) rfl (ok_wherrykeep_Over_row v154.Data _ hv155) rfl rfl rfl⟩ ?_
               refine ye [11,191,1,5,7,9,14] ?_
               refine pt_closeO ?_
               refine pt_then ?_
               obtain ⟨v156, hv156, h⟩ := bind_some h
               obtain ⟨v157, hv157, h⟩ := bind_some h
               obtain ⟨v158, hv158, h⟩ := bind_some h
               refine ht_pick [0, 1, 2, 3, 4, 5] rfl rfl ?_
               refine ht_openO 191 fun ov39 oh39 => ?_
               refine yx hn 2 ?_
               refine yS (.eref (.slot 11) (v156 * 15)) 2 ⟨op_ix _ _ _ _ _ _ _ _ underlying31 sz46 (by decide) rfl rfl rfl (ix_ok hv156).1 (oe_lt oe46_l oh39 (ix_ok hv156).2) rfl⟩ ?_
               refine yS (.v (List.getD ov39 (v156 * 15 + 5) undef)) 0 ⟨op_load_e _ _ _ _ _ _ underlying41 rfl rfl rfl (oe_get (q := 5) oe46_l oh39 hv157 (by decide))⟩ ?_
               refine yk [191] [156] ?_
               refine ytt (191, .inv (ownI (List.flatten (List.map oe46 ((((s725.set v153 ((T_Rec.mk v154.Kind ((T_Mail.mk (T_Path.mk v154.Mail.From.Null v154.Mail.From.Local v154.Mail.From.Domain) v154.Mail.To v154.Mail.Body v154.Mail.Quiet v154.Mail.Helo v154.Mail.At)) v154.Id v154.Ids v154.Origin v154.Number v154.Offset v155)))).set v156 ((T_Rec.mk v157.Kind ((T_Mail.mk (T_Path.mk v157.Mail.From.Null v157.Mail.From.Local v157.Mail.From.Domain) v157.Mail.To v158 v157.Mail.Quiet v157.Mail.Helo v157.Mail.At)) v157.Id v157.Ids v157.Origin v157.Number v157.Offset v157.Data)))))) ov39)) (157, .tup []) 0 ⟨op_callElW _ _ 191 (v156 * 15 + 5) 29 (x := .tmp 156) (ys := []) _ _ rfl call29 rfl rfl (oe_get (q := 5) oe46_l oh39 hv157 (by decide)) (gflat_cell oe46_l hv157 rfl) (oe_set (q := 5) oe46_l hv157 (y := (T_Rec.mk v157.Kind ((T_Mail.mk (T_Path.mk v157.Mail.From.Null v157.Mail.From.Local v157.Mail.From.Domain) v157.Mail.To v158 v157.Mail.Quiet v157.Mail.Helo v157.Mail.At)) v157.Id v157.Ids v157.Origin v157.Number v157.Offset v157.Data)) rfl (by decide)) rfl (ok_wherrykeep_Over_row v157.Mail.Body _ hv158) rfl rfl rfl⟩ ?_
               refine ye [11,191,1,5,7,9,14] ?_
               refine pt_closeO ?_
               refine pt_inb ?_
               refine pt_then ?_
               obtain ⟨v159, hv159, h⟩ := bind_some h
               refine yx hn 1 ?_
               refine ys 0 ⟨lb hv159⟩ ?_
               refine yw [14] 1 ?_
               refine ye [11,1,5,7,9,14] ?_
               exact pt_next _ (Option.some.inj h).symm rfl
              ·have h := cond_f hb734 h
               refine ht_exit ?_
               refine pt_x_then ?_
               refine pt_x_then ?_
               refine pt_x_in ?_
               refine pt_pick [1, 2, 3, 4] (by kernel_rfl) (es' := [(_,_),(_,_),(_,_),(_,_)]) rfl ?_
               exact hl729 _ (ho731 _ (Option.some.inj h).symm).symm
           ·intro u717 h hl718 hr719
            refine cond_some h (fun hg33_3 h => ?_) (fun hg33_3 h => ?_)
            ·refine yx hn 4 ?_
             refine yd hg33_3 12 ?_
             refine ye [11,1,5,7,9,138] ?_
             exact hl718 _ (Option.some.inj h).symm
            ·obtain ⟨v128, hv128, h⟩ := bind_some h
             refine cond_some h (fun hg33_10 h => ?_) (fun hg33_10 h => ?_)
             ·refine yx hn 4 ?_
              refine yd hg33_3 0 ?_
              refine yS (.same (.slot 11)) 2 ⟨op_move_name _ _ _ rfl⟩ ?_
              refine yS (.v (.bool v128)) 3 ⟨op_callOR _ _ 11 27 (pre := []) (x := .tmp 127) (post := [.tmp 129]) _ _ rfl call27 rfl rfl (by repeat first | exact List.Mem.head _ | apply List.Mem.tail) (oe_ais oe46_i _) rfl (ok_wherrykeep_Recs v19 v16.Recs _ hv128) rfl rfl⟩ ?_
              refine yd hg33_10 5 ?_
              refine ye [11,1,5,7,9,138] ?_
              exact hl718 _ (Option.some.inj h).symm
             ·obtain ⟨v129, hv129, h⟩ := bind_some h
              refine yx hn 4 ?_
              refine yd hg33_3 0 ?_
              refine yS (.same (.slot 11)) 2 ⟨op_move_name _ _ _ rfl⟩ ?_
              refine yS (.v (.bool v128)) 3 ⟨op_callOR _ _ 11 27 (pre := []) (x := .tmp 127) (post := [.tmp 129]) _ _ rfl call27 rfl rfl (by repeat first | exact List.Mem.head _ | apply List.Mem.tail) (oe_ais oe46_i _) rfl (ok_wherrykeep_Recs v19 v16.Recs _ hv128) rfl rfl⟩ ?_
              refine yd hg33_10 2 ?_
              refine yk [5,7] [134,135] ?_
              refine yn [(5, .box 64 [.v (.int .i64 v129.2.1.limit), .fr (.own 46) false 15 (List.flatten (List.map T_Rec.ienc v129.2.1.recs)), .v (.int .i64 v129.2.1.used), .v (.int .i64 v129.2.1.safe), .v (.int .i64 v129.2.1.kept), .v (.int .i64 v129.2.1.life), .v (.bool v129.2.1.off), .v (.int .i64 v129.2.1.trip), .v (.int .i64 v129.2.1.tripKeep)]), (7, .box 67 [.v (.int .i64 v129.2.2.Limit), .fr (.own 46) false 15 (List.flatten (List.map T_Rec.ienc v129.2.2.Recs)), .v (.int .i64 v129.2.2.Sure), .v (.bool v129.2.2.IsOff), .v (.int .i64 v129.2.2.Lives), .v (.int .i64 v129.2.2.Left), .v (.int .i64 v129.2.2.Keep), .v (.int .i64 v129.2.2.Kept)]), (136, .v (.bool v129.1))] 2 ⟨op_callP _ _ _ _ 136 28 [.tmp 134, .tmp 135] [] _ _ _ rfl call28 rfl rfl rfl (ok_wherrylaw18_same (T_diary_Diary.mk s643 s644 s645 s646 s647 s648 s649 s650 s651) (T_wherryref18_Diary.mk s652 s653 s654 s655 s656 s657 s658 s659) _ hv129) (zl rfl) rfl rfl rfl rfl rfl rfl rfl rfl⟩ ?_
              refine ye [11,1,5,7,9,138] ?_
              exact hl718 _ (Option.some.inj h).symm
          ·intro u662 h hl663 hr664
           refine ht_seq ?_
           obtain ⟨v20, hv20, h⟩ := bind_some h
           obtain ⟨v21, hv21, h⟩ := bind_some h
           refine yx hn 2 ?_
           refine ys 0 ⟨lv hv20⟩ ?_
           refine ys 0 ⟨lB (rem_ok hv21)⟩ ?_
           refine yee [1,5,7,9,10,11,12,13,63] ?_
           refine ht_joinS h (fun ((s671, s672, s673, s674, s675, s676, s677, s678, s679, s680, s681, s682, s683, s684, s685, s686, s687, s688, s689) : Int × (List T_Rec) × Int × Int × Int × Int × Bool × Int × Int × Int × (List T_Rec) × Int × Bool × Int × Int × Int × Int × Int × Int) => [(11, .hid (ownJ 46 15 (List.flatten (List.map oe46 v19)))), (1, .fr .shr true 4 (List.flatten (List.map T_wherrylaw18_Act.ienc l))), (5, .box 64 [.v (.int .i64 s671), .fr (.own 46) false 15 (List.flatten (List.map T_Rec.ienc s672)), .v (.int .i64 s673), .v (.int .i64 s674), .v (.int .i64 s675), .v (.int .i64 s676), .v (.bool s677), .v (.int .i64 s678), .v (.int .i64 s679)]), (7, .box 67 [.v (.int .i64 s680), .fr (.own 46) false 15 (List.flatten (List.map T_Rec.ienc s681)), .v (.int .i64 s682), .v (.bool s683), .v (.int .i64 s684), .v (.int .i64 s685), .v (.int .i64 s686), .v (.int .i64 s687)]), (9, .v (.int .i64 s429)), (10, .box 33 [.v (.int .i64 v16.Kind), .fr .shr true 15 (List.flatten (List.map T_Rec.ienc v16.Recs)), .v (.int .i64 v16.N), .v (.int .i64 v16.Keep)]), (12, .v (.int .i64 s688)), (13, .v (.int .i64 s689))]) ?_ ?_
           ·rintro ⟨s671, s672, s673, s674, s675, s676, s677, s678, s679, s680, s681, s682, s683, s684, s685, s686, s687, s688, s689⟩ h
            exact hl663 _ (Option.some.inj h).symm
           ·intro u690 h hl691 hr692
            refine ht_block ?_
            refine yyy hn 2 [1,5,7,9,10,11,12,13,63,68] ?_
            refine ht_cond _ rfl (fun hb693 => ?_) (fun hb693 => ?_)
            ·have h := cond_t hb693 h
             refine yxx hn 0 ?_
             refine yS (.same (.slot 11)) 0 ⟨op_move_name _ _ _ rfl⟩ ?_
             refine yS (.v (.int .i64 (v19.length : Int))) 1 ⟨op_len_own _ _ _ underlying31 rfl (gflat_len oe46_l _) (by decide)⟩ ?_
             refine yee [1,5,7,9,10,11,12,13,72] ?_
             refine ht_cond _ rfl (fun hb694 => ?_) (fun hb694 => ?_)
             ·have h := cond_t hb694 h
              obtain ⟨v24, hv24, h⟩ := bind_some h
              obtain ⟨v25, hv25, h⟩ := bind_some h
              obtain ⟨v26, hv26, h⟩ := bind_some h
              obtain ⟨v27, hv27, h⟩ := bind_some h
              obtain ⟨v28, hv28, h⟩ := bind_some h
              obtain ⟨v29, hv29, h⟩ := bind_some h
              refine ht_pick [5, 0, 1, 2, 3, 4, 6, 7, 8] rfl rfl ?_
              refine ht_openO 191 fun ov22 oh22 => ?_
              refine wb [[5],[11]] ?_
              refine wN [74,11] ?_
              refine wS (.eref (.slot 11) (v24 * 15)) [] ⟨op_ix _ _ _ _ _ _ _ _ underlying31 sz46 (by decide) rfl rfl rfl (ix_ok hv24).1 (oe_lt oe46_l oh22 (ix_ok hv24).2) rfl⟩ ?_
              refine wN [75,11] ?_
              refine wS (.agg [.v (List.getD ov22 (v24 * 15 + 0) undef), .v (List.getD ov22 (v24 * 15 + 1) undef), .v (List.getD ov22 (v24 * 15 + 2) undef), .v (List.getD ov22 (v24 * 15 + 3) undef), .v (List.getD ov22 (v24 * 15 + 4) undef), .v (List.getD ov22 (v24 * 15 + 5) undef), .v (List.getD ov22 (v24 * 15 + 6) undef), .v (List.getD ov22 (v24 * 15 + 7) undef), .v (List.getD ov22 (v24 * 15 + 8) undef), .v (List.getD ov22 (v24 * 15 + 9) undef), .v (List.getD ov22 (v24 * 15 + 10) undef), .v (List.getD ov22 (v24 * 15 + 11) undef), .v (List.getD ov22 (v24 * 15 + 12) undef), .v (List.getD ov22 (v24 * 15 + 13) undef), .v (List.getD ov22 (v24 * 15 + 14) undef)]) [] ⟨op_load_eA _ _ _ _ _ _ _ underlying46 rfl sz46 rfl rfl (oe_seg oe46_l oh22 hv25) rfl (by decide)⟩ ?_
              refine wK [5] [73,76,191] ?_
              refine wt [(5, .box 64 [.v (.int .i64 v26.2.limit), .fr (.own 46) false 15 (List.flatten (List.map T_Rec.ienc v26.2.recs)), .v (.int .i64 v26.2.used), .v (.int .i64 v26.2.safe), .v (.int .i64 v26.2.kept), .v (.int .i64 v26.2.life), .v (.bool v26.2.off), .v (.int .i64 v26.2.trip), .v (.int .i64 v26.2.tripKeep)]), (77, .v (.int .i64 v26.1))] [[7],[10],[79,10]] ⟨op_callPL _ _ _ _ 77 15 [.tmp 73] [.tmp 76] _ _ _ rfl call15 rfl rfl (lend_el (gs := 191) (oe_seg oe46_l oh22 hv25) (gflat_get oe46_l hv25) rfl (by repeat first | exact List.Mem.head _ | apply List.Mem.tail) lend_nil) (ok_diary_Diary_Put (T_diary_Diary.mk s412 s413 s414 s415 s416 s417 s418 s419 s420) v25 _ hv26) (zl rfl) rfl rfl rfl (noIm_of rfl rfl) (noIms_of rfl rfl) rfl rfl rfl⟩ ?_
              refine wN [80] ?_
              refine wo [] ⟨lI hv27⟩ ?_
              refine wN [81,80] ?_
              refine wS (.agg [.v (.int .i64 v28.Kind), .v (.bool v28.Mail.From.Null), .v (.string v28.Mail.From.Local), .v (.string v28.Mail.From.Domain), .fl .shr 3 (List.flatten (List.map T_Path.enc v28.Mail.To)), .fl .shr 1 (List.map (Value.int .u8) v28.Mail.Body), .v (.bool v28.Mail.Quiet), .v (.string v28.Mail.Helo), .v (.int .i64 v28.Mail.At), .v (.int .i64 v28.Id), .fl .shr 1 (List.map (Value.int .i64) v28.Ids), .v (.int .i64 v28.Origin), .v (.int .i64 v28.Number), .v (.int .i64 v28.Offset), .fl .shr 1 (List.map (Value.int .u8) v28.Data)]) [] ⟨op_loadA_fr _ _ _ _ _ _ _ _ underlying46 rfl sz46 rfl rfl (gflat_get T_Rec.ilen hv28) (.cons (.v _) (.cons (.v _) (.cons (.v _) (.cons (.v _) (.cons (.fl _ _ rfl) (.cons (.fl _ _ rfl) (.cons (.v _) (.cons (.v _) (.cons (.v _) (.cons (.v _) (.cons (.fl _ _ rfl) (.cons (.v _) (.cons (.v _) (.cons (.v _) (.cons (.fl _ _ rfl) (.nil)))))))))))))))) rfl (by decide)⟩ ?_
              refine wK [7] [78,82] ?_
              refine wt [(7, .box 67 [.v (.int .i64 v29.2.Limit), .fr (.own 46) false 15 (List.flatten (List.map T_Rec.ienc v29.2.Recs)), .v (.int .i64 v29.2.Sure), .v (.bool v29.2.IsOff), .v (.int .i64 v29.2.Lives), .v (.int .i64 v29.2.Left), .v (.int .i64 v29.2.Keep), .v (.int .i64 v29.2.Kept)]), (83, .v (.int .i64 v29.1))] [] ⟨op_callP _ _ _ _ 83 16 [.tmp 78] [.tmp 82] _ _ _ rfl call16 rfl rfl rfl (ok_wherryref18_Diary_Put (T_wherryref18_Diary.mk s421 s422 s423 s424 s425 s426 s427 s428) ((T_Rec.mk v28.Kind ((T_Mail.mk (T_Path.mk v28.Mail.From.Null v28.Mail.From.Local v28.Mail.From.Domain) v28.Mail.To v28.Mail.Body v28.Mail.Quiet v28.Mail.Helo v28.Mail.At)) v28.Id v28.Ids v28.Origin v28.Number v28.Offset v28.Data)) _ hv29) (zl rfl) rfl rfl rfl rfl rfl rfl rfl rfl⟩ ?_
              refine wK [12] [77] ?_
              refine wt [(12, .v (.int .i64 v26.1))] [] ⟨LOp.drop [_] (op_assign _ _ _ _ rfl rfl)⟩ ?_
              refine wK [13] [83] ?_
              refine wt [(13, .v (.int .i64 v29.1))] [] ⟨LOp.drop [_] (op_assign _ _ _ _ rfl rfl)⟩ ?_
              refine we hn [11,191,1,5,7,9,10,12,13] ?_
              refine pt_closeO ?_
              refine pt_inb ?_
              exact hl691 _ (Option.some.inj h).symm
             ·have h := cond_f hb694 h
              refine ht_skip ?_
              refine pt_inb ?_
              refine pt_pick [5, 0, 1, 2, 3, 4, 6, 7] (by kernel_rfl) (es' := [(_,_),(_,_),(_,_),(_,_),(_,_),(_,_),(_,_),(_,_)]) rfl ?_
              exact hl691 _ (Option.some.inj h).symm
            ·have h := cond_f hb693 h
             refine yyy hn 2 [1,5,7,9,10,11,12,13,63,84] ?_
             refine ht_cond _ rfl (fun hb695 => ?_) (fun hb695 => ?_)
             ·have h := cond_t hb695 h
              obtain ⟨v31, hv31, h⟩ := bind_some h
              obtain ⟨v32, hv32, h⟩ := bind_some h
              refine yx hn 1 ?_
              refine yQ call17 (ok_diary_Diary_Sync _ _ hv31) 5 [86] 1 ?_
              refine yQ call18 (ok_wherryref18_Diary_Sync _ _ hv32) 7 [88] 0 ?_
              refine yw [12] 1 ?_
              refine yw [13] 1 ?_
              refine ye [1,5,7,9,10,11,12,13] ?_
              refine pt_inb ?_
              refine pt_pick [5, 0, 1, 2, 3, 4, 6, 7] (by kernel_rfl) (es' := [(_,_),(_,_),(_,_),(_,_),(_,_),(_,_),(_,_),(_,_)]) rfl ?_
              exact hl691 _ (Option.some.inj h).symm
             ·have h := cond_f hb695 h
              refine yyy hn 2 [1,5,7,9,10,11,12,13,63,90] ?_
              refine ht_cond _ rfl (fun hb696 => ?_) (fun hb696 => ?_)
              ·have h := cond_t hb696 h
               obtain ⟨v34, hv34, h⟩ := bind_some h
               obtain ⟨v35, hv35, h⟩ := bind_some h
               refine wb [[5],[]] ?_
               refine wK [5] [92,93,11] ?_
               refine wt [(5, .box 64 [.v (.int .i64 v34.2.limit), .fr (.own 46) false 15 (List.flatten (List.map T_Rec.ienc v34.2.recs)), .v (.int .i64 v34.2.used), .v (.int .i64 v34.2.safe), .v (.int .i64 v34.2.kept), .v (.int .i64 v34.2.life), .v (.bool v34.2.off), .v (.int .i64 v34.2.trip), .v (.int .i64 v34.2.tripKeep)]), (94, .v (.int .i64 v34.1))] [[7],[10],[96,10]] ⟨op_callPL _ _ _ _ 94 19 [.tmp 92] [.tmp 93] _ _ _ rfl call19 rfl rfl (lend_own rfl (by repeat first | exact List.Mem.head _ | apply List.Mem.tail) (oe_ais oe46_i _) lend_nil) (ok_diary_Diary_Renew (T_diary_Diary.mk s412 s413 s414 s415 s416 s417 s418 s419 s420) v19 _ hv34) (zl rfl) rfl rfl rfl (noIm_of rfl rfl) (noIms_of rfl rfl) rfl rfl rfl⟩ ?_
               refine wK [7] [95,97] ?_
               refine wt [(7, .box 67 [.v (.int .i64 v35.2.Limit), .fr (.own 46) false 15 (List.flatten (List.map T_Rec.ienc v35.2.Recs)), .v (.int .i64 v35.2.Sure), .v (.bool v35.2.IsOff), .v (.int .i64 v35.2.Lives), .v (.int .i64 v35.2.Left), .v (.int .i64 v35.2.Keep), .v (.int .i64 v35.2.Kept)]), (98, .v (.int .i64 v35.1))] [] ⟨op_callP _ _ _ _ 98 20 [.tmp 95] [.tmp 97] _ _ _ rfl call20 rfl rfl rfl (ok_wherryref18_Diary_Renew (T_wherryref18_Diary.mk s421 s422 s423 s424 s425 s426 s427 s428) v16.Recs _ hv35) (zl rfl) rfl rfl rfl rfl rfl rfl rfl rfl⟩ ?_
               refine wK [12] [94] ?_
               refine wt [(12, .v (.int .i64 v34.1))] [] ⟨LOp.drop [_] (op_assign _ _ _ _ rfl rfl)⟩ ?_
               refine wK [13] [98] ?_
               refine wt [(13, .v (.int .i64 v35.1))] [] ⟨LOp.drop [_] (op_assign _ _ _ _ rfl rfl)⟩ ?_
               refine we hn [1,5,7,9,10,11,12,13] ?_
               refine pt_inb ?_
               refine pt_pick [5, 0, 1, 2, 3, 4, 6, 7] (by kernel_rfl) (es' := [(_,_),(_,_),(_,_),(_,_),(_,_),(_,_),(_,_),(_,_)]) rfl ?_
               exact hl691 _ (Option.some.inj h).symm
              ·have h := cond_f hb696 h
               refine yyy hn 2 [1,5,7,9,10,11,12,13,63,99] ?_
               refine ht_cond _ rfl (fun hb697 => ?_) (fun hb697 => ?_)
               ·have h := cond_t hb697 h
                refine ht_seq ?_
                obtain ⟨v37, hv37, h⟩ := bind_some h
                refine yx hn 3 ?_
                refine yQ call21 (ok_diary_Diary_Crash _ _ _ hv37) 5 [101,103] 0 ?_
                refine yee [1,5,7,9,10,11,12,13] ?_
                obtain ⟨v38, hv38, h⟩ := bind_some h
                refine yx hn 3 ?_
                refine yQ call22 (ok_wherryref18_Diary_Crash _ _ _ hv38) 7 [105,107] 0 ?_
                refine ye [1,5,7,9,10,11,12,13] ?_
                refine pt_inb ?_
                refine pt_pick [5, 0, 1, 2, 3, 4, 6, 7] (by kernel_rfl) (es' := [(_,_),(_,_),(_,_),(_,_),(_,_),(_,_),(_,_),(_,_)]) rfl ?_
                exact hl691 _ (Option.some.inj h).symm
               ·have h := cond_f hb697 h
                refine yyy hn 2 [1,5,7,9,10,11,12,13,109] ?_
                refine ht_cond _ rfl (fun hb698 => ?_) (fun hb698 => ?_)
                ·have h := cond_t hb698 h
                 refine ht_seq ?_
                 obtain ⟨v40, hv40, h⟩ := bind_some h
                 refine yx hn 5 ?_
                 refine yQ call23 (ok_diary_Diary_Trip _ _ _ _ hv40) 5 [111,113,115] 0 ?_
                 refine yee [1,5,7,9,10,11,12,13] ?_
                 obtain ⟨v41, hv41, h⟩ := bind_some h
                 refine yx hn 5 ?_
                 refine yQ call24 (ok_wherryref18_Diary_Trip _ _ _ _ hv41) 7 [117,119,121] 0 ?_
                 refine ye [1,5,7,9,10,11,12,13] ?_
                 refine pt_inb ?_
                 refine pt_pick [5, 0, 1, 2, 3, 4, 6, 7] (by kernel_rfl) (es' := [(_,_),(_,_),(_,_),(_,_),(_,_),(_,_),(_,_),(_,_)]) rfl ?_
                 exact hl691 _ (Option.some.inj h).symm
                ·have h := cond_f hb698 h
                 refine ht_seq ?_
                 obtain ⟨v42, hv42, h⟩ := bind_some h
                 refine yx hn 1 ?_
                 refine yQ call25 (ok_diary_Diary_Start _ _ hv42) 5 [64] 0 ?_
                 refine yee [1,5,7,9,10,11,12,13] ?_
                 obtain ⟨v43, hv43, h⟩ := bind_some h
                 refine yx hn 1 ?_
                 refine yQ call26 (ok_wherryref18_Diary_Start _ _ hv43) 7 [66] 0 ?_
                 refine ye [1,5,7,9,10,11,12,13] ?_
                 refine pt_inb ?_
                 refine pt_pick [5, 0, 1, 2, 3, 4, 6, 7] (by kernel_rfl) (es' := [(_,_),(_,_),(_,_),(_,_),(_,_),(_,_),(_,_),(_,_)]) rfl ?_
                 exact hl691 _ (Option.some.inj h).symm
        ·have h := cond_f hb607 h
         refine ht_exit ?_
         refine pt_x_then ?_
         refine pt_x_then ?_
         refine pt_x_in ?_
         refine pt_pick [] (by kernel_rfl) (es' := []) rfl ?_
         exact hl602 _ (ho604 _ (Option.some.inj h).symm).symm
     ·intro u10 h hl11 hr12
      refine cond_some h (fun hg5_3 h => ?_) (fun hg5_3 h => ?_)
      ·refine yx hn 4 ?_
       refine yd hg5_3 6 ?_
       refine ye [1,5,7,40] ?_
       exact hl11 _ (Option.some.inj h).symm
      ·obtain ⟨v8, hv8, h⟩ := bind_some h
       refine yx hn 4 ?_
       refine yd hg5_3 1 ?_
       refine yS (.v (.bool false)) 1 ⟨op_pnil _ _ false (by kernel_rfl) rfl rfl⟩ ?_
       refine yS (.v (.bool false)) 0 ⟨op_pnil _ _ false (by kernel_rfl) rfl rfl⟩ ?_
       refine yS (.v (.bool ((!(false == false))))) 1 ⟨op_bne _ _ _ _ underlying4 rfl rfl⟩ ?_
       refine ye [1,5,7,40] ?_
       exact hl11 _ (Option.some.inj h).symm
    ·refine pt_then (ht_seq ?_)
     refine ht_seq ?_
     refine ht_joinS h (fun (s779 : Bool) => [(1, .fr .shr true 4 (List.flatten (List.map T_wherrylaw18_Act.ienc l))), (5, .box 64 [.v (.int .i64 v3.limit), .fr (.own 46) false 15 (List.flatten (List.map T_Rec.ienc v3.recs)), .v (.int .i64 v3.used), .v (.int .i64 v3.safe), .v (.int .i64 v3.kept), .v (.int .i64 v3.life), .v (.bool v3.off), .v (.int .i64 v3.trip), .v (.int .i64 v3.tripKeep)]), (7, .v (.pointer none)), (40, .v (.bool s779))]) ?_ ?_
     ·rintro s779 h
      refine pt_then ?_
      refine ht_cond _ rfl (fun hb783 => ?_) (fun hb783 => ?_)
      ·have h := cond_t hb783 h
       refine yyy hn 1 [4] ?_
       refine ht_ret ?_
       refine pt_r_then ?_
       obtain rfl := Option.some.inj h
       exact pt_ret hio rfl (.tmp _ _ .nil) rfl rfl
      ·have h := cond_f hb783 h
       refine ht_skip ?_
       refine pt_then (ht_seq ?_)
       refine yxx hn 1 ?_
       refine yS (.v (.bool false)) 0 ⟨op_pnil _ _ false (by kernel_rfl) rfl rfl⟩ ?_
       refine yee [1,5,7,42] ?_
       refine ht_cond false rfl (fun hb => by cases hb) (fun _ => ?_)
       refine ht_skip ?_
       refine pt_then (ht_seq ?_)
       refine yyy hn 1 [1,5,7,9] ?_
       refine ht_loopS h (fun (() : Unit) => [(1, .fr .shr true 4 (List.flatten (List.map T_wherrylaw18_Act.ienc l))), (5, .box 64 [.v (.int .i64 v3.limit), .fr (.own 46) false 15 (List.flatten (List.map T_Rec.ienc v3.recs)), .v (.int .i64 v3.used), .v (.int .i64 v3.safe), .v (.int .i64 v3.kept), .v (.int .i64 v3.life), .v (.bool v3.off), .v (.int .i64 v3.trip), .v (.int .i64 v3.tripKeep)]), (7, .v (.pointer none)), (9, .v (.int .i64 0))]) (fun (() : Unit) => []) ?_ ?_
       ·rintro ⟨⟩ h
        refine pt_then (ht_seq ?_)
        obtain ⟨v778, hv778, h⟩ := bind_some h
        refine yx hn 0 ?_
        refine ys 1 ⟨lk call12 (ok_wherrylaw18_wakes _ hv778)⟩ ?_
        refine yee [4] ?_
        refine ht_ret ?_
        obtain rfl := Option.some.inj h
        exact pt_ret hio rfl (.tmp _ _ .nil) rfl rfl
       ·rintro u854 hl855 hr856 ⟨⟩ rr859 h ho857
        refine ht_seq ?_
        refine yyy hn 4 [1,5,7,9,47] ?_
        refine ht_cond _ rfl (fun hb860 => ?_) (fun hb860 => ?_)
        ·have h := cond_t hb860 h
         refine ht_skip ?_
         refine pt_then (ht_seq ?_)
         refine ht_block ?_
         refine ht_seq ?_
         obtain ⟨v15, hv15, h⟩ := bind_some h
         obtain ⟨v16, hv16, h⟩ := bind_some h
         refine yx hn 2 ?_
         refine ys 0 ⟨lI hv15⟩ ?_
         refine yS (.agg [.v (.int .i64 v16.Kind), .fr .shr true 15 (List.flatten (List.map T_Rec.ienc v16.Recs)), .v (.int .i64 v16.N), .v (.int .i64 v16.Keep)]) 0 ⟨op_loadA_fr _ _ _ _ _ _ _ _ underlying33 rfl sz33 rfl rfl (gflat_get T_wherrylaw18_Act.ilen hv16) (.cons (.v _) (.cons (.fr _ _) (.cons (.v _) (.cons (.v _) (.nil))))) rfl (by decide)⟩ ?_
         refine yS (.box 33 [.v (.int .i64 0), .v (.slice none 0 0), .v (.int .i64 0), .v (.int .i64 0)]) 1 ⟨oA (op_alloc _ _ zr33)⟩ ?_
         refine yee [1,5,7,9,10] ?_
         refine ht_seq ?_
         refine ht_seq ?_
         obtain ⟨v17, hv17, h⟩ := bind_some h
         refine yx hn 2 ?_
         refine ys 0 ⟨lk call13 (ok_wherrylaw18_Heavy _ _ hv17)⟩ ?_
         refine yee [1,5,7,9,10,56] ?_
         refine ht_cond _ rfl (fun hb861 => ?_) (fun hb861 => ?_)
         ·have h := cond_t hb861 h
          refine yyy hn 1 [4] ?_
          refine ht_ret ?_
          refine pt_r_then ?_
          refine pt_r_in ?_
          refine pt_r_then ?_
          refine pt_r_then ?_
          refine pt_r_in ?_
          refine pt_r_then ?_
          have h := hr856 _ (ho857 _ (Option.some.inj h).symm).symm
          obtain rfl := Option.some.inj h
          exact pt_ret hio rfl (.tmp _ _ .nil) rfl rfl
         ·have h := cond_f hb861 h
          cases h
        ·have h := cond_f hb860 h
         refine ht_exit ?_
         refine pt_x_then ?_
         refine pt_x_then ?_
         refine pt_x_in ?_
         refine pt_pick [] (by kernel_rfl) (es' := []) rfl ?_
         exact hl855 _ (ho857 _ (Option.some.inj h).symm).symm
     ·intro u780 h hl781 hr782
      refine cond_some h (fun hg5_3 h => ?_) (fun hg5_3 h => ?_)
      ·refine yx hn 4 ?_
       refine yd hg5_3 6 ?_
       refine ye [1,5,7,40] ?_
       exact hl781 _ (Option.some.inj h).symm
      ·obtain ⟨v8, hv8, h⟩ := bind_some h
       refine yx hn 4 ?_
       refine yd hg5_3 1 ?_
       refine yS (.v (.bool false)) 1 ⟨op_pnil _ _ false (by kernel_rfl) rfl rfl⟩ ?_
       refine yS (.v (.bool true)) 0 ⟨op_nilnil _ _ false (by kernel_rfl) rfl rfl⟩ ?_
       refine yS (.v (.bool ((!(false == true))))) 1 ⟨op_bne _ _ _ _ underlying4 rfl rfl⟩ ?_
       refine ye [1,5,7,40] ?_
       exact hl781 _ (Option.some.inj h).symm
   ·refine pt_then (ht_seq ?_)
    obtain ⟨v5, hv5, h⟩ := bind_some h
    refine yx hn 1 ?_
    refine ys 0 ⟨lk call11 (ok_wherryref18_New _ _ hv5)⟩ ?_
    refine ym 0 ?_
    refine yx_ 1 ?_
    refine ya 1 ?_
    refine ye [1,5,6,7,8] ?_
    refine pt_ob (d := default) (f := fun (v895 : T_wherryref18_Diary) => [.v (.int .i64 v895.Limit), .fr (.own 46) false 15 (List.flatten (List.map T_Rec.ienc v895.Recs)), .v (.int .i64 v895.Sure), .v (.bool v895.IsOff), .v (.int .i64 v895.Lives), .v (.int .i64 v895.Left), .v (.int .i64 v895.Keep), .v (.int .i64 v895.Kept)]) 3 8 7 67 h (es1 := fun v895 => [(1, .fr .shr true 4 (List.flatten (List.map T_wherrylaw18_Act.ienc l))), (5, .v (.pointer none)), (6, .v (.int .i64 v2.2)), (7, .box 67 [.v (.int .i64 v895.Limit), .fr (.own 46) false 15 (List.flatten (List.map T_Rec.ienc v895.Recs)), .v (.int .i64 v895.Sure), .v (.bool v895.IsOff), .v (.int .i64 v895.Lives), .v (.int .i64 v895.Left), .v (.int .i64 v895.Keep), .v (.int .i64 v895.Kept)]), (8, .v (.int .i64 v5.2))]) (es0 := [(1, .fr .shr true 4 (List.flatten (List.map T_wherrylaw18_Act.ienc l))), (5, .v (.pointer none)), (6, .v (.int .i64 v2.2)), (7, .v (.pointer none)), (8, .v (.int .i64 v5.2))]) rfl (fun _ => rfl) (by kernel_rfl) (fun _ => rfl) (fun _ => rfl) rfl (fun v895 hv896 h => ?_) (fun hv896 h => ?_)
    ·refine pt_then (ht_seq ?_)
     refine ht_seq ?_
     refine ht_joinS h (fun (s897 : Bool) => [(1, .fr .shr true 4 (List.flatten (List.map T_wherrylaw18_Act.ienc l))), (5, .v (.pointer none)), (7, .box 67 [.v (.int .i64 v895.Limit), .fr (.own 46) false 15 (List.flatten (List.map T_Rec.ienc v895.Recs)), .v (.int .i64 v895.Sure), .v (.bool v895.IsOff), .v (.int .i64 v895.Lives), .v (.int .i64 v895.Left), .v (.int .i64 v895.Keep), .v (.int .i64 v895.Kept)]), (40, .v (.bool s897))]) ?_ ?_
     ·rintro s897 h
      refine pt_then ?_
      refine ht_cond _ rfl (fun hb901 => ?_) (fun hb901 => ?_)
      ·have h := cond_t hb901 h
       refine yyy hn 1 [4] ?_
       refine ht_ret ?_
       refine pt_r_then ?_
       obtain rfl := Option.some.inj h
       exact pt_ret hio rfl (.tmp _ _ .nil) rfl rfl
      ·have h := cond_f hb901 h
       refine ht_skip ?_
       refine pt_then (ht_seq ?_)
       refine yxx hn 1 ?_
       refine yS (.v (.bool true)) 0 ⟨op_nilnil _ _ false (by kernel_rfl) rfl rfl⟩ ?_
       refine yee [1,5,7,42] ?_
       refine ht_cond true rfl (fun _ => ?_) (fun hb => by cases hb)
       refine ht_seq ?_
       obtain ⟨v902, hv902, h⟩ := bind_some h
       refine yx hn 0 ?_
       refine ys 1 ⟨lk call12 (ok_wherrylaw18_wakes _ hv902)⟩ ?_
       refine yee [4] ?_
       refine ht_ret ?_
       refine pt_r_then ?_
       obtain rfl := Option.some.inj h
       exact pt_ret hio rfl (.tmp _ _ .nil) rfl rfl
     ·intro u898 h hl899 hr900
      refine cond_some h (fun hg5_3 h => ?_) (fun hg5_3 h => ?_)
      ·refine yx hn 4 ?_
       refine yd hg5_3 6 ?_
       refine ye [1,5,7,40] ?_
       exact hl899 _ (Option.some.inj h).symm
      ·obtain ⟨v8, hv8, h⟩ := bind_some h
       refine yx hn 4 ?_
       refine yd hg5_3 1 ?_
       refine yS (.v (.bool true)) 1 ⟨op_nilnil _ _ false (by kernel_rfl) rfl rfl⟩ ?_
       refine yS (.v (.bool false)) 0 ⟨op_pnil _ _ false (by kernel_rfl) rfl rfl⟩ ?_
       refine yS (.v (.bool ((!(true == false))))) 1 ⟨op_bne _ _ _ _ underlying4 rfl rfl⟩ ?_
       refine ye [1,5,7,40] ?_
       exact hl899 _ (Option.some.inj h).symm
    ·refine pt_then (ht_seq ?_)
     refine ht_seq ?_
     refine ht_joinS h (fun (s903 : Bool) => [(1, .fr .shr true 4 (List.flatten (List.map T_wherrylaw18_Act.ienc l))), (5, .v (.pointer none)), (7, .v (.pointer none)), (40, .v (.bool s903))]) ?_ ?_
     ·rintro s903 h
      refine pt_then ?_
      refine ht_cond _ rfl (fun hb907 => ?_) (fun hb907 => ?_)
      ·have h := cond_t hb907 h
       refine yyy hn 1 [4] ?_
       refine ht_ret ?_
       refine pt_r_then ?_
       obtain rfl := Option.some.inj h
       exact pt_ret hio rfl (.tmp _ _ .nil) rfl rfl
      ·have h := cond_f hb907 h
       refine ht_skip ?_
       refine pt_then (ht_seq ?_)
       refine yxx hn 1 ?_
       refine yS (.v (.bool true)) 0 ⟨op_nilnil _ _ false (by kernel_rfl) rfl rfl⟩ ?_
       refine yee [1,5,7,42] ?_
       refine ht_cond true rfl (fun _ => ?_) (fun hb => by cases hb)
       refine ht_seq ?_
       obtain ⟨v902, hv902, h⟩ := bind_some h
       refine yx hn 0 ?_
       refine ys 1 ⟨lk call12 (ok_wherrylaw18_wakes _ hv902)⟩ ?_
       refine yee [4] ?_
       refine ht_ret ?_
       refine pt_r_then ?_
       obtain rfl := Option.some.inj h
       exact pt_ret hio rfl (.tmp _ _ .nil) rfl rfl
     ·intro u904 h hl905 hr906
      refine cond_some h (fun hg5_3 h => ?_) (fun hg5_3 h => ?_)
      ·refine yx hn 4 ?_
       refine yd hg5_3 6 ?_
       refine ye [1,5,7,40] ?_
       exact hl905 _ (Option.some.inj h).symm
      ·obtain ⟨v8, hv8, h⟩ := bind_some h
       refine yx hn 4 ?_
       refine yd hg5_3 1 ?_
       refine yS (.v (.bool true)) 1 ⟨op_nilnil _ _ false (by kernel_rfl) rfl rfl⟩ ?_
       refine yS (.v (.bool true)) 0 ⟨op_nilnil _ _ false (by kernel_rfl) rfl rfl⟩ ?_
       refine yS (.v (.bool ((!(true == true))))) 1 ⟨op_bne _ _ _ _ underlying4 rfl rfl⟩ ?_
       refine ye [1,5,7,40] ?_
       exact hl905 _ (Option.some.inj h).symm

end Go.Proofs.Ytbioodcjmceefaa
