/-
  The model's runs are what is told in Lean.
-/
import Derived.Test.YtbioodcjmceefaaProg
import Derived.KernelRfl
import Derived.Test.YtbioodcjmceefaaBG
import Derived.Test.YtbioodcjmceefaaC1
import Derived.Test.YtbioodcjmceefaaBB
import Derived.Test.YtbioodcjmceefaaOkc3
set_option linter.unusedVariables false
set_option linter.unusedSimpArgs false
set_option maxHeartbeats 1000000
namespace Go.Proofs.Ytbioodcjmceefaa
open Go.Abs Go.Abs.Sh Try
theorem ok_diary_Diary_Used (d : T_diary_Diary) (r : (Int × T_diary_Diary)) (h : Sh.diary_Diary_Used d = some r) : FnP Try.prog 35 [.box 64 [.v (.int .i64 d.limit), .fr (.own 46) false 15 (List.flatten (List.map T_Rec.ienc d.recs)), .v (.int .i64 d.used), .v (.int .i64 d.safe), .v (.int .i64 d.kept), .v (.int .i64 d.life), .v (.bool d.off), .v (.int .i64 d.trip), .v (.int .i64 d.tripKeep)]] [.box 64 [.v (.int .i64 r.2.limit), .fr (.own 46) false 15 (List.flatten (List.map T_Rec.ienc r.2.recs)), .v (.int .i64 r.2.used), .v (.int .i64 r.2.safe), .v (.int .i64 r.2.kept), .v (.int .i64 r.2.life), .v (.bool r.2.off), .v (.int .i64 r.2.trip), .v (.int .i64 r.2.tripKeep)]] (.v (.int .i64 r.1)) := by
  unfold Sh.diary_Diary_Used at h
  refine yP 7 func35 fun args0 hargs0 g0 hn hio => ?_
  refine yyy hn 1 [0,0] ?_
  refine yyy hn 5 [0,2,0] ?_
  refine ht_ret ?_
  refine pt_pick [1, 0, 2] (by kernel_rfl) (es' := [(_,_),(_,_),(_,_)]) rfl ?_
  obtain rfl := Option.some.inj h
  exact pt_retP (es := [(2, .v (.int .i64 d.used))]) (posts := [.box 64 [.v (.int .i64 d.limit), .fr (.own 46) false 15 (List.flatten (List.map T_Rec.ienc d.recs)), .v (.int .i64 d.used), .v (.int .i64 d.safe), .v (.int .i64 d.kept), .v (.int .i64 d.life), .v (.bool d.off), .v (.int .i64 d.trip), .v (.int .i64 d.tripKeep)]]) hio rfl rfl (.tmp _ _ .nil) rfl rfl hargs0 rfl
theorem ok_diary_Diary_Kept (d : T_diary_Diary) (r : (Int × T_diary_Diary)) (h : Sh.diary_Diary_Kept d = some r) : FnP Try.prog 32 [.box 64 [.v (.int .i64 d.limit), .fr (.own 46) false 15 (List.flatten (List.map T_Rec.ienc d.recs)), .v (.int .i64 d.used), .v (.int .i64 d.safe), .v (.int .i64 d.kept), .v (.int .i64 d.life), .v (.bool d.off), .v (.int .i64 d.trip), .v (.int .i64 d.tripKeep)]] [.box 64 [.v (.int .i64 r.2.limit), .fr (.own 46) false 15 (List.flatten (List.map T_Rec.ienc r.2.recs)), .v (.int .i64 r.2.used), .v (.int .i64 r.2.safe), .v (.int .i64 r.2.kept), .v (.int .i64 r.2.life), .v (.bool r.2.off), .v (.int .i64 r.2.trip), .v (.int .i64 r.2.tripKeep)]] (.v (.int .i64 r.1)) := by
  unfold Sh.diary_Diary_Kept at h
  refine yP 7 func32 fun args0 hargs0 g0 hn hio => ?_
  refine yyy hn 1 [0,0] ?_
  refine yyy hn 5 [0,2,0] ?_
  refine ht_ret ?_
  refine pt_pick [1, 0, 2] (by kernel_rfl) (es' := [(_,_),(_,_),(_,_)]) rfl ?_
  obtain rfl := Option.some.inj h
  exact pt_retP (es := [(2, .v (.int .i64 d.kept))]) (posts := [.box 64 [.v (.int .i64 d.limit), .fr (.own 46) false 15 (List.flatten (List.map T_Rec.ienc d.recs)), .v (.int .i64 d.used), .v (.int .i64 d.safe), .v (.int .i64 d.kept), .v (.int .i64 d.life), .v (.bool d.off), .v (.int .i64 d.trip), .v (.int .i64 d.tripKeep)]]) hio rfl rfl (.tmp _ _ .nil) rfl rfl hargs0 rfl
theorem ok_wherrylaw18_same (d : T_diary_Diary) (p_r : T_wherryref18_Diary) (r : (Bool × T_diary_Diary × T_wherryref18_Diary)) (h : Sh.wherrylaw18_same d p_r = some r) : FnP Try.prog 28 [.box 64 [.v (.int .i64 d.limit), .fr (.own 46) false 15 (List.flatten (List.map T_Rec.ienc d.recs)), .v (.int .i64 d.used), .v (.int .i64 d.safe), .v (.int .i64 d.kept), .v (.int .i64 d.life), .v (.bool d.off), .v (.int .i64 d.trip), .v (.int .i64 d.tripKeep)], .box 67 [.v (.int .i64 p_r.Limit), .fr (.own 46) false 15 (List.flatten (List.map T_Rec.ienc p_r.Recs)), .v (.int .i64 p_r.Sure), .v (.bool p_r.IsOff), .v (.int .i64 p_r.Lives), .v (.int .i64 p_r.Left), .v (.int .i64 p_r.Keep), .v (.int .i64 p_r.Kept)]] [.box 64 [.v (.int .i64 r.2.1.limit), .fr (.own 46) false 15 (List.flatten (List.map T_Rec.ienc r.2.1.recs)), .v (.int .i64 r.2.1.used), .v (.int .i64 r.2.1.safe), .v (.int .i64 r.2.1.kept), .v (.int .i64 r.2.1.life), .v (.bool r.2.1.off), .v (.int .i64 r.2.1.trip), .v (.int .i64 r.2.1.tripKeep)], .box 67 [.v (.int .i64 r.2.2.Limit), .fr (.own 46) false 15 (List.flatten (List.map T_Rec.ienc r.2.2.Recs)), .v (.int .i64 r.2.2.Sure), .v (.bool r.2.2.IsOff), .v (.int .i64 r.2.2.Lives), .v (.int .i64 r.2.2.Left), .v (.int .i64 r.2.2.Keep), .v (.int .i64 r.2.2.Kept)]] (.v (.bool r.1)) := by
  unfold Sh.wherrylaw18_same at h
  refine yP 80 func28 fun args0 hargs0 g0 hn hio => ?_
  refine yyy hn 1 [0,1,0,1] ?_
  refine ht_seq ?_
  obtain ⟨v1, hv1, h⟩ := bind_some h
  refine yx hn 1 ?_
  refine yk [0] [10] ?_
  refine ytt (0, .box 64 [.v (.int .i64 v1.2.2.limit), .fr (.own 46) false 15 (List.flatten (List.map T_Rec.ienc v1.2.2.recs)), .v (.int .i64 v1.2.2.used), .v (.int .i64 v1.2.2.safe), .v (.int .i64 v1.2.2.kept), .v (.int .i64 v1.2.2.life), .v (.bool v1.2.2.off), .v (.int .i64 v1.2.2.trip), .v (.int .i64 v1.2.2.tripKeep)]) (11, .tup [.hid (ownJ 46 15 (List.flatten (List.map oe46 v1.1))), .v (.int .i64 v1.2.1)]) 0 ⟨op_callPL _ _ _ _ 11 30 [.tmp 10] [] _ _ _ rfl call30 rfl rfl lend_nil (ok_diary_Diary_Read d _ hv1) (zl rfl) rfl rfl rfl (noIm_tup (noIms_cons (noIm_hid (oe_closed oe46_c _) (oe_noShr oe46_s _)) (noIms_cons (noIm_of rfl rfl) (noIms_nil)))) (noIms_of rfl rfl) rfl rfl rfl⟩ ?_
  refine ym 0 ?_
  refine yx_ 1 ?_
  refine ya 1 ?_
  refine yee [0,1,5,6,0,1] ?_
  refine ht_seq ?_
  obtain ⟨v2, hv2, h⟩ := bind_some h
  refine yx hn 1 ?_
  refine yQ call52 (ok_wherryref18_Diary_Read _ _ hv2) 1 [15] 0 ?_
  refine ym 0 ?_
  refine yx_ 1 ?_
  refine ya 1 ?_
  refine yee [0,1,5,6,7,8,0,1] ?_
  refine ht_seq ?_
  refine ht_joinS h (fun ((s12, s13, s14, s15, s16, s17, s18, s19, s20, s21) : Int × (List T_Rec) × Int × Int × Int × Int × Bool × Int × Int × Bool) => [(0, .box 64 [.v (.int .i64 s12), .fr (.own 46) false 15 (List.flatten (List.map T_Rec.ienc s13)), .v (.int .i64 s14), .v (.int .i64 s15), .v (.int .i64 s16), .v (.int .i64 s17), .v (.bool s18), .v (.int .i64 s19), .v (.int .i64 s20)]), (1, .box 67 [.v (.int .i64 v2.2.2.Limit), .fr (.own 46) false 15 (List.flatten (List.map T_Rec.ienc v2.2.2.Recs)), .v (.int .i64 v2.2.2.Sure), .v (.bool v2.2.2.IsOff), .v (.int .i64 v2.2.2.Lives), .v (.int .i64 v2.2.2.Left), .v (.int .i64 v2.2.2.Keep), .v (.int .i64 v2.2.2.Kept)]), (4, .v (.bool s21)), (0, .v (List.getD args0 0 undef)), (1, .v (List.getD args0 1 undef))]) ?_ ?_
  ·rintro ⟨s12, s13, s14, s15, s16, s17, s18, s19, s20, s21⟩ h
   refine pt_then (ht_ret ?_)
   refine pt_pick [2, 0, 1, 3, 4] (by kernel_rfl) (es' := [(_,_),(_,_),(_,_),(_,_),(_,_)]) rfl ?_
   obtain rfl := Option.some.inj h
   exact pt_retP (es := [(4, .v (.bool s21))]) (posts := [.box 64 [.v (.int .i64 s12), .fr (.own 46) false 15 (List.flatten (List.map T_Rec.ienc s13)), .v (.int .i64 s14), .v (.int .i64 s15), .v (.int .i64 s16), .v (.int .i64 s17), .v (.bool s18), .v (.int .i64 s19), .v (.int .i64 s20)], .box 67 [.v (.int .i64 v2.2.2.Limit), .fr (.own 46) false 15 (List.flatten (List.map T_Rec.ienc v2.2.2.Recs)), .v (.int .i64 v2.2.2.Sure), .v (.bool v2.2.2.IsOff), .v (.int .i64 v2.2.2.Lives), .v (.int .i64 v2.2.2.Left), .v (.int .i64 v2.2.2.Keep), .v (.int .i64 v2.2.2.Kept)]]) hio rfl rfl (.tmp _ _ .nil) rfl rfl hargs0 rfl
  ·intro u22 h hl23 hr24
   obtain ⟨v3, hv3, h⟩ := bind_some h
   obtain ⟨v4, hv4, h⟩ := bind_some h
   refine cond_some h (fun hg3_7 h => ?_) (fun hg3_7 h => ?_)
   ·obtain ⟨v5, hv5, h⟩ := bind_some h
    refine cond_some h (fun hg3_16 h => ?_) (fun hg3_16 h => ?_)
    ·obtain ⟨v6, hv6, h⟩ := bind_some h
     refine cond_some h (fun hg3_26 h => ?_) (fun hg3_26 h => ?_)
     ·obtain ⟨v7, hv7, h⟩ := bind_some h
      refine cond_some h (fun hg3_35 h => ?_) (fun hg3_35 h => ?_)
      ·obtain ⟨v8, hv8, h⟩ := bind_some h
       obtain ⟨v9, hv9, h⟩ := bind_some h
       refine cond_some h (fun hg3_42 h => ?_) (fun hg3_42 h => ?_)
       ·obtain ⟨v10, hv10, h⟩ := bind_some h
        refine cond_some h (fun hg3_51 h => ?_) (fun hg3_51 h => ?_)
        ·refine cond_some h (fun hg3_56 h => ?_) (fun hg3_56 h => ?_)
         ·obtain ⟨v11, hv11, h⟩ := bind_some h
          refine wb [[0]] ?_
          refine wK [0] [19] ?_
          refine wt [(0, .box 64 [.v (.int .i64 v3.2.limit), .fr (.own 46) false 15 (List.flatten (List.map T_Rec.ienc v3.2.recs)), .v (.int .i64 v3.2.used), .v (.int .i64 v3.2.safe), .v (.int .i64 v3.2.kept), .v (.int .i64 v3.2.life), .v (.bool v3.2.off), .v (.int .i64 v3.2.trip), .v (.int .i64 v3.2.tripKeep)]), (20, .v (.bool v3.1))] [[],[21,1],[22,1],[23,1]] ⟨op_callP _ _ _ _ 20 37 [.tmp 19] [] _ _ _ rfl call37 rfl rfl rfl (ok_diary_Diary_Off v1.2.2 _ hv3) (zl rfl) rfl rfl rfl rfl rfl rfl rfl rfl⟩ ?_
          refine wN [20,24] ?_
          refine wS (.v (.bool (v3.1 == v2.2.2.IsOff))) [[25]] ⟨op_beq _ _ _ _ underlying4 rfl rfl⟩ ?_
          refine wd hg3_7 [[26,0]] ?_
          refine wK [0] [26,27] ?_
          refine wt [(0, .box 64 [.v (.int .i64 v5.2.limit), .fr (.own 46) false 15 (List.flatten (List.map T_Rec.ienc v5.2.recs)), .v (.int .i64 v5.2.used), .v (.int .i64 v5.2.safe), .v (.int .i64 v5.2.kept), .v (.int .i64 v5.2.life), .v (.bool v5.2.off), .v (.int .i64 v5.2.trip), .v (.int .i64 v5.2.tripKeep)]), (28, .v (.int .i64 v5.1))] [[26],[26,29,1],[26,30,1],[26,31,1],[26,28,32],[26,33],[34]] ⟨op_callP _ _ _ _ 28 36 [.tmp 27] [] _ _ _ rfl call36 rfl rfl rfl (ok_diary_Diary_Life v3.2 _ hv5) (zl rfl) rfl rfl rfl rfl rfl rfl rfl rfl⟩ ?_
          refine wd hg3_16 [[35,0]] ?_
          refine wK [0] [35,36] ?_
          refine wt [(0, .box 64 [.v (.int .i64 v6.2.limit), .fr (.own 46) false 15 (List.flatten (List.map T_Rec.ienc v6.2.recs)), .v (.int .i64 v6.2.used), .v (.int .i64 v6.2.safe), .v (.int .i64 v6.2.kept), .v (.int .i64 v6.2.life), .v (.bool v6.2.off), .v (.int .i64 v6.2.trip), .v (.int .i64 v6.2.tripKeep)]), (37, .v (.int .i64 v6.1))] [[35],[35,38,1],[35,39,1],[35,40,1],[35,41,1],[35,37,42],[35,43],[44]] ⟨op_callP _ _ _ _ 37 34 [.tmp 36] [] _ _ _ rfl call34 rfl rfl rfl (ok_diary_Diary_Len v5.2 _ hv6) (zl rfl) rfl rfl rfl rfl rfl rfl rfl rfl⟩ ?_
          refine wd hg3_26 [[45,0]] ?_
          refine wK [0] [45,46] ?_
          refine wt [(0, .box 64 [.v (.int .i64 v7.2.limit), .fr (.own 46) false 15 (List.flatten (List.map T_Rec.ienc v7.2.recs)), .v (.int .i64 v7.2.used), .v (.int .i64 v7.2.safe), .v (.int .i64 v7.2.kept), .v (.int .i64 v7.2.life), .v (.bool v7.2.off), .v (.int .i64 v7.2.trip), .v (.int .i64 v7.2.tripKeep)]), (47, .v (.int .i64 v7.1))] [[45],[45,48,1],[45,49,1],[45,50,1],[45,47,51],[45,52],[53]] ⟨op_callP _ _ _ _ 47 31 [.tmp 46] [] _ _ _ rfl call31 rfl rfl rfl (ok_diary_Diary_Safe v6.2 _ hv7) (zl rfl) rfl rfl rfl rfl rfl rfl rfl rfl⟩ ?_
          refine wd hg3_35 [[54,0]] ?_
          refine wK [0] [54,55] ?_
          refine wt [(0, .box 64 [.v (.int .i64 v8.2.limit), .fr (.own 46) false 15 (List.flatten (List.map T_Rec.ienc v8.2.recs)), .v (.int .i64 v8.2.used), .v (.int .i64 v8.2.safe), .v (.int .i64 v8.2.kept), .v (.int .i64 v8.2.life), .v (.bool v8.2.off), .v (.int .i64 v8.2.trip), .v (.int .i64 v8.2.tripKeep)]), (56, .v (.int .i64 v8.1))] [[54,1]] ⟨op_callP _ _ _ _ 56 35 [.tmp 55] [] _ _ _ rfl call35 rfl rfl rfl (ok_diary_Diary_Used v7.2 _ hv8) (zl rfl) rfl rfl rfl rfl rfl rfl rfl rfl⟩ ?_
          refine wN [54,57,1] ?_
          refine wS (.v (.int .i64 v9)) [[54,56,58],[54,59],[60]] ⟨op_callNR _ 58 1 43 [] _ rfl call43 rfl rfl rfl rfl (fun u => ok_wherryref18_Diary_Used_pinr u v2.2.2 _ hv9) rfl rfl rfl⟩ ?_
          refine wd hg3_42 [[61,0]] ?_
          refine wK [0] [61,62] ?_
          refine wt [(0, .box 64 [.v (.int .i64 v10.2.limit), .fr (.own 46) false 15 (List.flatten (List.map T_Rec.ienc v10.2.recs)), .v (.int .i64 v10.2.used), .v (.int .i64 v10.2.safe), .v (.int .i64 v10.2.kept), .v (.int .i64 v10.2.life), .v (.bool v10.2.off), .v (.int .i64 v10.2.trip), .v (.int .i64 v10.2.tripKeep)]), (63, .v (.int .i64 v10.1))] [[61],[61,64,1],[61,65,1],[61,66,1],[61,63,67],[61,68],[69]] ⟨op_callP _ _ _ _ 63 32 [.tmp 62] [] _ _ _ rfl call32 rfl rfl rfl (ok_diary_Diary_Kept v8.2 _ hv10) (zl rfl) rfl rfl rfl rfl rfl rfl rfl rfl⟩ ?_
          refine wd hg3_51 [[70,6],[70,8],[70,71,72],[70,73],[74]] ?_
          refine wd hg3_56 [[75]] ?_
          refine wK [7] [75] ?_
          refine wt [(77, .fr (.own 46) false 15 (List.flatten (List.map T_Rec.ienc v2.1)))] [] ⟨op_move_take _ _ _ _ rfl⟩ ?_
          refine wN [75,5,76,77] ?_
          refine wS (.v (.bool v11)) [[75,78],[79]] ⟨op_callOR _ _ 5 27 (pre := []) (x := .tmp 76) (post := [.tmp 77]) _ _ rfl call27 rfl rfl (by repeat first | exact List.Mem.head _ | apply List.Mem.tail) (oe_ais oe46_i _) rfl (ok_wherrykeep_Recs v1.1 v2.1 _ hv11) rfl rfl⟩ ?_
          refine we hn [0,1,4,0,1] ?_
          exact hl23 _ (Option.some.inj h).symm
         ·refine wb [[0]] ?_
          refine wK [0] [19] ?_
          refine wt [(0, .box 64 [.v (.int .i64 v3.2.limit), .fr (.own 46) false 15 (List.flatten (List.map T_Rec.ienc v3.2.recs)), .v (.int .i64 v3.2.used), .v (.int .i64 v3.2.safe), .v (.int .i64 v3.2.kept), .v (.int .i64 v3.2.life), .v (.bool v3.2.off), .v (.int .i64 v3.2.trip), .v (.int .i64 v3.2.tripKeep)]), (20, .v (.bool v3.1))] [[],[21,1],[22,1],[23,1]] ⟨op_callP _ _ _ _ 20 37 [.tmp 19] [] _ _ _ rfl call37 rfl rfl rfl (ok_diary_Diary_Off v1.2.2 _ hv3) (zl rfl) rfl rfl rfl rfl rfl rfl rfl rfl⟩ ?_
          refine wN [20,24] ?_
          refine wS (.v (.bool (v3.1 == v2.2.2.IsOff))) [[25]] ⟨op_beq _ _ _ _ underlying4 rfl rfl⟩ ?_
          refine wd hg3_7 [[26,0]] ?_
          refine wK [0] [26,27] ?_
          refine wt [(0, .box 64 [.v (.int .i64 v5.2.limit), .fr (.own 46) false 15 (List.flatten (List.map T_Rec.ienc v5.2.recs)), .v (.int .i64 v5.2.used), .v (.int .i64 v5.2.safe), .v (.int .i64 v5.2.kept), .v (.int .i64 v5.2.life), .v (.bool v5.2.off), .v (.int .i64 v5.2.trip), .v (.int .i64 v5.2.tripKeep)]), (28, .v (.int .i64 v5.1))] [[26],[26,29,1],[26,30,1],[26,31,1],[26,28,32],[26,33],[34]] ⟨op_callP _ _ _ _ 28 36 [.tmp 27] [] _ _ _ rfl call36 rfl rfl rfl (ok_diary_Diary_Life v3.2 _ hv5) (zl rfl) rfl rfl rfl rfl rfl rfl rfl rfl⟩ ?_
          refine wd hg3_16 [[35,0]] ?_
          refine wK [0] [35,36] ?_
          refine wt [(0, .box 64 [.v (.int .i64 v6.2.limit), .fr (.own 46) false 15 (List.flatten (List.map T_Rec.ienc v6.2.recs)), .v (.int .i64 v6.2.used), .v (.int .i64 v6.2.safe), .v (.int .i64 v6.2.kept), .v (.int .i64 v6.2.life), .v (.bool v6.2.off), .v (.int .i64 v6.2.trip), .v (.int .i64 v6.2.tripKeep)]), (37, .v (.int .i64 v6.1))] [[35],[35,38,1],[35,39,1],[35,40,1],[35,41,1],[35,37,42],[35,43],[44]] ⟨op_callP _ _ _ _ 37 34 [.tmp 36] [] _ _ _ rfl call34 rfl rfl rfl (ok_diary_Diary_Len v5.2 _ hv6) (zl rfl) rfl rfl rfl rfl rfl rfl rfl rfl⟩ ?_
          refine wd hg3_26 [[45,0]] ?_
          refine wK [0] [45,46] ?_
          refine wt [(0, .box 64 [.v (.int .i64 v7.2.limit), .fr (.own 46) false 15 (List.flatten (List.map T_Rec.ienc v7.2.recs)), .v (.int .i64 v7.2.used), .v (.int .i64 v7.2.safe), .v (.int .i64 v7.2.kept), .v (.int .i64 v7.2.life), .v (.bool v7.2.off), .v (.int .i64 v7.2.trip), .v (.int .i64 v7.2.tripKeep)]), (47, .v (.int .i64 v7.1))] [[45],[45,48,1],[45,49,1],[45,50,1],[45,47,51],[45,52],[53]] ⟨op_callP _ _ _ _ 47 31 [.tmp 46] [] _ _ _ rfl call31 rfl rfl rfl (ok_diary_Diary_Safe v6.2 _ hv7) (zl rfl) rfl rfl rfl rfl rfl rfl rfl rfl⟩ ?_
          refine wd hg3_35 [[54,0]] ?_
          refine wK [0] [54,55] ?_
          refine wt [(0, .box 64 [.v (.int .i64 v8.2.limit), .fr (.own 46) false 15 (List.flatten (List.map T_Rec.ienc v8.2.recs)), .v (.int .i64 v8.2.used), .v (.int .i64 v8.2.safe), .v (.int .i64 v8.2.kept), .v (.int .i64 v8.2.life), .v (.bool v8.2.off), .v (.int .i64 v8.2.trip), .v (.int .i64 v8.2.tripKeep)]), (56, .v (.int .i64 v8.1))] [[54,1]] ⟨op_callP _ _ _ _ 56 35 [.tmp 55] [] _ _ _ rfl call35 rfl rfl rfl (ok_diary_Diary_Used v7.2 _ hv8) (zl rfl) rfl rfl rfl rfl rfl rfl rfl rfl⟩ ?_
          refine wN [54,57,1] ?_
          refine wS (.v (.int .i64 v9)) [[54,56,58],[54,59],[60]] ⟨op_callNR _ 58 1 43 [] _ rfl call43 rfl rfl rfl rfl (fun u => ok_wherryref18_Diary_Used_pinr u v2.2.2 _ hv9) rfl rfl rfl⟩ ?_
          refine wd hg3_42 [[61,0]] ?_
          refine wK [0] [61,62] ?_
          refine wt [(0, .box 64 [.v (.int .i64 v10.2.limit), .fr (.own 46) false 15 (List.flatten (List.map T_Rec.ienc v10.2.recs)), .v (.int .i64 v10.2.used), .v (.int .i64 v10.2.safe), .v (.int .i64 v10.2.kept), .v (.int .i64 v10.2.life), .v (.bool v10.2.off), .v (.int .i64 v10.2.trip), .v (.int .i64 v10.2.tripKeep)]), (63, .v (.int .i64 v10.1))] [[61],[61,64,1],[61,65,1],[61,66,1],[61,63,67],[61,68],[69]] ⟨op_callP _ _ _ _ 63 32 [.tmp 62] [] _ _ _ rfl call32 rfl rfl rfl (ok_diary_Diary_Kept v8.2 _ hv10) (zl rfl) rfl rfl rfl rfl rfl rfl rfl rfl⟩ ?_
          refine wd hg3_51 [[70,6],[70,8],[70,71,72],[70,73],[74]] ?_
          refine wd hg3_56 [[75],[75],[75],[75],[79]] ?_
          refine we hn [0,1,4,0,1] ?_
          exact hl23 _ (Option.some.inj h).symm
        ·refine wb [[0]] ?_
         refine wK [0] [19] ?_
         refine wt [(0, .box 64 [.v (.int .i64 v3.2.limit), .fr (.own 46) false 15 (List.flatten (List.map T_Rec.ienc v3.2.recs)), .v (.int .i64 v3.2.used), .v (.int .i64 v3.2.safe), .v (.int .i64 v3.2.kept), .v (.int .i64 v3.2.life), .v (.bool v3.2.off), .v (.int .i64 v3.2.trip), .v (.int .i64 v3.2.tripKeep)]), (20, .v (.bool v3.1))] [[],[21,1],[22,1],[23,1]] ⟨op_callP _ _ _ _ 20 37 [.tmp 19] [] _ _ _ rfl call37 rfl rfl rfl (ok_diary_Diary_Off v1.2.2 _ hv3) (zl rfl) rfl rfl rfl rfl rfl rfl rfl rfl⟩ ?_
         refine wN [20,24] ?_
         refine wS (.v (.bool (v3.1 == v2.2.2.IsOff))) [[25]] ⟨op_beq _ _ _ _ underlying4 rfl rfl⟩ ?_
         refine wd hg3_7 [[26,0]] ?_
         refine wK [0] [26,27] ?_
         refine wt [(0, .box 64 [.v (.int .i64 v5.2.limit), .fr (.own 46) false 15 (List.flatten (List.map T_Rec.ienc v5.2.recs)), .v (.int .i64 v5.2.used), .v (.int .i64 v5.2.safe), .v (.int .i64 v5.2.kept), .v (.int .i64 v5.2.life), .v (.bool v5.2.off), .v (.int .i64 v5.2.trip), .v (.int .i64 v5.2.tripKeep)]), (28, .v (.int .i64 v5.1))] [[26],[26,29,1],[26,30,1],[26,31,1],[26,28,32],[26,33],[34]] ⟨op_callP _ _ _ _ 28 36 [.tmp 27] [] _ _ _ rfl call36 rfl rfl rfl (ok_diary_Diary_Life v3.2 _ hv5) (zl rfl) rfl rfl rfl rfl rfl rfl rfl rfl⟩ ?_
         refine wd hg3_16 [[35,0]] ?_
         refine wK [0] [35,36] ?_
         refine wt [(0, .box 64 [.v (.int .i64 v6.2.limit), .fr (.own 46) false 15 (List.flatten (List.map T_Rec.ienc v6.2.recs)), .v (.int .i64 v6.2.used), .v (.int .i64 v6.2.safe), .v (.int .i64 v6.2.kept), .v (.int .i64 v6.2.life), .v (.bool v6.2.off), .v (.int .i64 v6.2.trip), .v (.int .i64 v6.2.tripKeep)]), (37, .v (.int .i64 v6.1))] [[35],[35,38,1],[35,39,1],[35,40,1],[35,41,1],[35,37,42],[35,43],[44]] ⟨op_callP _ _ _ _ 37 34 [.tmp 36] [] _ _ _ rfl call34 rfl rfl rfl (ok_diary_Diary_Len v5.2 _ hv6) (zl rfl) rfl rfl rfl rfl rfl rfl rfl rfl⟩ ?_
         refine wd hg3_26 [[45,0]] ?_
         refine wK [0] [45,46] ?_
         refine wt [(0, .box 64 [.v (.int .i64 v7.2.limit), .fr (.own 46) false 15 (List.flatten (List.map T_Rec.ienc v7.2.recs)), .v (.int .i64 v7.2.used), .v (.int .i64 v7.2.safe), .v (.int .i64 v7.2.kept), .v (.int .i64 v7.2.life), .v (.bool v7.2.off), .v (.int .i64 v7.2.trip), .v (.int .i64 v7.2.tripKeep)]), (47, .v (.int .i64 v7.1))] [[45],[45,48,1],[45,49,1],[45,50,1],[45,47,51],[45,52],[53]] ⟨op_callP _ _ _ _ 47 31 [.tmp 46] [] _ _ _ rfl call31 rfl rfl rfl (ok_diary_Diary_Safe v6.2 _ hv7) (zl rfl) rfl rfl rfl rfl rfl rfl rfl rfl⟩ ?_
         refine wd hg3_35 [[54,0]] ?_
         refine wK [0] [54,55] ?_
         refine wt [(0, .box 64 [.v (.int .i64 v8.2.limit), .fr (.own 46) false 15 (List.flatten (List.map T_Rec.ienc v8.2.recs)), .v (.int .i64 v8.2.used), .v (.int .i64 v8.2.safe), .v (.int .i64 v8.2.kept), .v (.int .i64 v8.2.life), .v (.bool v8.2.off), .v (.int .i64 v8.2.trip), .v (.int .i64 v8.2.tripKeep)]), (56, .v (.int .i64 v8.1))] [[54,1]] ⟨op_callP _ _ _ _ 56 35 [.tmp 55] [] _ _ _ rfl call35 rfl rfl rfl (ok_diary_Diary_Used v7.2 _ hv8) (zl rfl) rfl rfl rfl rfl rfl rfl rfl rfl⟩ ?_
         refine wN [54,57,1] ?_
         refine wS (.v (.int .i64 v9)) [[54,56,58],[54,59],[60]] ⟨op_callNR _ 58 1 43 [] _ rfl call43 rfl rfl rfl rfl (fun u => ok_wherryref18_Diary_Used_pinr u v2.2.2 _ hv9) rfl rfl rfl⟩ ?_
         refine wd hg3_42 [[61,0]] ?_
         refine wK [0] [61,62] ?_
         refine wt [(0, .box 64 [.v (.int .i64 v10.2.limit), .fr (.own 46) false 15 (List.flatten (List.map T_Rec.ienc v10.2.recs)), .v (.int .i64 v10.2.used), .v (.int .i64 v10.2.safe), .v (.int .i64 v10.2.kept), .v (.int .i64 v10.2.life), .v (.bool v10.2.off), .v (.int .i64 v10.2.trip), .v (.int .i64 v10.2.tripKeep)]), (63, .v (.int .i64 v10.1))] [[61],[61,64,1],[61,65,1],[61,66,1],[61,63,67],[61,68],[69]] ⟨op_callP _ _ _ _ 63 32 [.tmp 62] [] _ _ _ rfl call32 rfl rfl rfl (ok_diary_Diary_Kept v8.2 _ hv10) (zl rfl) rfl rfl rfl rfl rfl rfl rfl rfl⟩ ?_
         refine wd hg3_51 [[70],[70],[70],[70],[74],[75],[75],[75],[75],[79]] ?_
         refine we hn [0,1,4,0,1] ?_
         exact hl23 _ (Option.some.inj h).symm
       ·refine wb [[0]] ?_
        refine wK [0] [19] ?_
        refine wt [(0, .box 64 [.v (.int .i64 v3.2.limit), .fr (.own 46) false 15 (List.flatten (List.map T_Rec.ienc v3.2.recs)), .v (.int .i64 v3.2.used), .v (.int .i64 v3.2.safe), .v (.int .i64 v3.2.kept), .v (.int .i64 v3.2.life), .v (.bool v3.2.off), .v (.int .i64 v3.2.trip), .v (.int .i64 v3.2.tripKeep)]), (20, .v (.bool v3.1))] [[],[21,1],[22,1],[23,1]] ⟨op_callP _ _ _ _ 20 37 [.tmp 19] [] _ _ _ rfl call37 rfl rfl rfl (ok_diary_Diary_Off v1.2.2 _ hv3) (zl rfl) rfl rfl rfl rfl rfl rfl rfl rfl⟩ ?_
        refine wN [20,24] ?_
        refine wS (.v (.bool (v3.1 == v2.2.2.IsOff))) [[25]] ⟨op_beq _ _ _ _ underlying4 rfl rfl⟩ ?_
        refine wd hg3_7 [[26,0]] ?_
        refine wK [0] [26,27] ?_
        refine wt [(0, .box 64 [.v (.int .i64 v5.2.limit), .fr (.own 46) false 15 (List.flatten (List.map T_Rec.ienc v5.2.recs)), .v (.int .i64 v5.2.used), .v (.int .i64 v5.2.safe), .v (.int .i64 v5.2.kept), .v (.int .i64 v5.2.life), .v (.bool v5.2.off), .v (.int .i64 v5.2.trip), .v (.int .i64 v5.2.tripKeep)]), (28, .v (.int .i64 v5.1))] [[26],[26,29,1],[26,30,1],[26,31,1],[26,28,32],[26,33],[34]] ⟨op_callP _ _ _ _ 28 36 [.tmp 27] [] _ _ _ rfl call36 rfl rfl rfl (ok_diary_Diary_Life v3.2 _ hv5) (zl rfl) rfl rfl rfl rfl rfl rfl rfl rfl⟩ ?_
        refine wd hg3_16 [[35,0]] ?_
        refine wK [0] [35,36] ?_
        refine wt [(0, .box 64 [.v (.int .i64 v6.2.limit), .fr (.own 46) false 15 (List.flatten (List.map T_Rec.ienc v6.2.recs)), .v (.int .i64 v6.2.used), .v (.int .i64 v6.2.safe), .v (.int .i64 v6.2.kept), .v (.int .i64 v6.2.life), .v (.bool v6.2.off), .v (.int .i64 v6.2.trip), .v (.int .i64 v6.2.tripKeep)]), (37, .v (.int .i64 v6.1))] [[35],[35,38,1],[35,39,1],[35,40,1],[35,41,1],[35,37,42],[35,43],[44]] ⟨op_callP _ _ _ _ 37 34 [.tmp 36] [] _ _ _ rfl call34 rfl rfl rfl (ok_diary_Diary_Len v5.2 _ hv6) (zl rfl) rfl rfl rfl rfl rfl rfl rfl rfl⟩ ?_
        refine wd hg3_26 [[45,0]] ?_
        refine wK [0] [45,46] ?_
        refine wt [(0, .box 64 [.v (.int .i64 v7.2.limit), .fr (.own 46) false 15 (List.flatten (List.map T_Rec.ienc v7.2.recs)), .v (.int .i64 v7.2.used), .v (.int .i64 v7.2.safe), .v (.int .i64 v7.2.kept), .v (.int .i64 v7.2.life), .v (.bool v7.2.off), .v (.int .i64 v7.2.trip), .v (.int .i64 v7.2.tripKeep)]), (47, .v (.int .i64 v7.1))] [[45],[45,48,1],[45,49,1],[45,50,1],[45,47,51],[45,52],[53]] ⟨op_callP _ _ _ _ 47 31 [.tmp 46] [] _ _ _ rfl call31 rfl rfl rfl (ok_diary_Diary_Safe v6.2 _ hv7) (zl rfl) rfl rfl rfl rfl rfl rfl rfl rfl⟩ ?_
        refine wd hg3_35 [[54,0]] ?_
        refine wK [0] [54,55] ?_
        refine wt [(0, .box 64 [.v (.int .i64 v8.2.limit), .fr (.own 46) false 15 (List.flatten (List.map T_Rec.ienc v8.2.recs)), .v (.int .i64 v8.2.used), .v (.int .i64 v8.2.safe), .v (.int .i64 v8.2.kept), .v (.int .i64 v8.2.life), .v (.bool v8.2.off), .v (.int .i64 v8.2.trip), .v (.int .i64 v8.2.tripKeep)]), (56, .v (.int .i64 v8.1))] [[54,1]] ⟨op_callP _ _ _ _ 56 35 [.tmp 55] [] _ _ _ rfl call35 rfl rfl rfl (ok_diary_Diary_Used v7.2 _ hv8) (zl rfl) rfl rfl rfl rfl rfl rfl rfl rfl⟩ ?_
        refine wN [54,57,1] ?_
        refine wS (.v (.int .i64 v9)) [[54,56,58],[54,59],[60]] ⟨op_callNR _ 58 1 43 [] _ rfl call43 rfl rfl rfl rfl (fun u => ok_wherryref18_Diary_Used_pinr u v2.2.2 _ hv9) rfl rfl rfl⟩ ?_
        refine wd hg3_42 [[61],[61],[61],[61],[61],[61],[61],[61],[69],[70],[70],[70],[70],[74],[75],[75],[75],[75],[79]] ?_
        refine we hn [0,1,4,0,1] ?_
        exact hl23 _ (Option.some.inj h).symm
      ·refine wb [[0]] ?_
       refine wK [0] [19] ?_
       refine wt [(0, .box 64 [.v (.int .i64 v3.2.limit), .fr (.own 46) false 15 (List.flatten (List.map T_Rec.ienc v3.2.recs)), .v (.int .i64 v3.2.used), .v (.int .i64 v3.2.safe), .v (.int .i64 v3.2.kept), .v (.int .i64 v3.2.life), .v (.bool v3.2.off), .v (.int .i64 v3.2.trip), .v (.int .i64 v3.2.tripKeep)]), (20, .v (.bool v3.1))] [[],[21,1],[22,1],[23,1]] ⟨op_callP _ _ _ _ 20 37 [.tmp 19] [] _ _ _ rfl call37 rfl rfl rfl (ok_diary_Diary_Off v1.2.2 _ hv3) (zl rfl) rfl rfl rfl rfl rfl rfl rfl rfl⟩ ?_
       refine wN [20,24] ?_
       refine wS (.v (.bool (v3.1 == v2.2.2.IsOff))) [[25]] ⟨op_beq _ _ _ _ underlying4 rfl rfl⟩ ?_
       refine wd hg3_7 [[26,0]] ?_
       refine wK [0] [26,27] ?_
       refine wt [(0, .box 64 [.v (.int .i64 v5.2.limit), .fr (.own 46) false 15 (List.flatten (List.map T_Rec.ienc v5.2.recs)), .v (.int .i64 v5.2.used), .v (.int .i64 v5.2.safe), .v (.int .i64 v5.2.kept), .v (.int .i64 v5.2.life), .v (.bool v5.2.off), .v (.int .i64 v5.2.trip), .v (.int .i64 v5.2.tripKeep)]), (28, .v (.int .i64 v5.1))] [[26],[26,29,1],[26,30,1],[26,31,1],[26,28,32],[26,33],[34]] ⟨op_callP _ _ _ _ 28 36 [.tmp 27] [] _ _ _ rfl call36 rfl rfl rfl (ok_diary_Diary_Life v3.2 _ hv5) (zl rfl) rfl rfl rfl rfl rfl rfl rfl rfl⟩ ?_
       refine wd hg3_16 [[35,0]] ?_
       refine wK [0] [35,36] ?_
       refine wt [(0, .box 64 [.v (.int .i64 v6.2.limit), .fr (.own 46) false 15 (List.flatten (List.map T_Rec.ienc v6.2.recs)), .v (.int .i64 v6.2.used), .v (.int .i64 v6.2.safe), .v (.int .i64 v6.2.kept), .v (.int .i64 v6.2.life), .v (.bool v6.2.off), .v (.int .i64 v6.2.trip), .v (.int .i64 v6.2.tripKeep)]), (37, .v (.int .i64 v6.1))] [[35],[35,38,1],[35,39,1],[35,40,1],[35,41,1],[35,37,42],[35,43],[44]] ⟨op_callP _ _ _ _ 37 34 [.tmp 36] [] _ _ _ rfl call34 rfl rfl rfl (ok_diary_Diary_Len v5.2 _ hv6) (zl rfl) rfl rfl rfl rfl rfl rfl rfl rfl⟩ ?_
       refine wd hg3_26 [[45,0]] ?_
       refine wK [0] [45,46] ?_
       refine wt [(0, .box 64 [.v (.int .i64 v7.2.limit), .fr (.own 46) false 15 (List.flatten (List.map T_Rec.ienc v7.2.recs)), .v (.int .i64 v7.2.used), .v (.int .i64 v7.2.safe), .v (.int .i64 v7.2.kept), .v (.int .i64 v7.2.life), .v (.bool v7.2.off), .v (.int .i64 v7.2.trip), .v (.int .i64 v7.2.tripKeep)]), (47, .v (.int .i64 v7.1))] [[45],[45,48,1],[45,49,1],[45,50,1],[45,47,51],[45,52],[53]] ⟨op_callP _ _ _ _ 47 31 [.tmp 46] [] _ _ _ rfl call31 rfl rfl rfl (ok_diary_Diary_Safe v6.2 _ hv7) (zl rfl) rfl rfl rfl rfl rfl rfl rfl rfl⟩ ?_
       refine wd hg3_35 [[54],[54],[54],[54],[54],[54],[60],[61],[61],[61],[61],[61],[61],[61],[61],[69],[70],[70],[70],[70],[74],[75],[75],[75],[75],[79]] ?_
       refine we hn [0,1,4,0,1] ?_
       exact hl23 _ (Option.some.inj h).symm
     ·refine wb [[0]] ?_
      refine wK [0] [19] ?_
      refine wt [(0, .box 64 [.v (.int .i64 v3.2.limit), .fr (.own 46) false 15 (List.flatten (List.map T_Rec.ienc v3.2.recs)), .v (.int .i64 v3.2.used), .v (.int .i64 v3.2.safe), .v (.int .i64 v3.2.kept), .v (.int .i64 v3.2.life), .v (.bool v3.2.off), .v (.int .i64 v3.2.trip), .v (.int .i64 v3.2.tripKeep)]), (20, .v (.bool v3.1))] [[],[21,1],[22,1],[23,1]] ⟨op_callP _ _ _ _ 20 37 [.tmp 19] [] _ _ _ rfl call37 rfl rfl rfl (ok_diary_Diary_Off v1.2.2 _ hv3) (zl rfl) rfl rfl rfl rfl rfl rfl rfl rfl⟩ ?_
      refine wN [20,24] ?_
      refine wS (.v (.bool (v3.1 == v2.2.2.IsOff))) [[25]] ⟨op_beq _ _ _ _ underlying4 rfl rfl⟩ ?_
      refine wd hg3_7 [[26,0]] ?_
      refine wK [0] [26,27] ?_
      refine wt [(0, .box 64 [.v (.int .i64 v5.2.limit), .fr (.own 46) false 15 (List.flatten (List.map T_Rec.ienc v5.2.recs)), .v (.int .i64 v5.2.used), .v (.int .i64 v5.2.safe), .v (.int .i64 v5.2.kept), .v (.int .i64 v5.2.life), .v (.bool v5.2.off), .v (.int .i64 v5.2.trip), .v (.int .i64 v5.2.tripKeep)]), (28, .v (.int .i64 v5.1))] [[26],[26,29,1],[26,30,1],[26,31,1],[26,28,32],[26,33],[34]] ⟨op_callP _ _ _ _ 28 36 [.tmp 27] [] _ _ _ rfl call36 rfl rfl rfl (ok_diary_Diary_Life v3.2 _ hv5) (zl rfl) rfl rfl rfl rfl rfl rfl rfl rfl⟩ ?_
      refine wd hg3_16 [[35,0]] ?_
      refine wK [0] [35,36] ?_
      refine wt [(0, .box 64 [.v (.int .i64 v6.2.limit), .fr (.own 46) false 15 (List.flatten (List.map T_Rec.ienc v6.2.recs)), .v (.int .i64 v6.2.used), .v (.int .i64 v6.2.safe), .v (.int .i64 v6.2.kept), .v (.int .i64 v6.2.life), .v (.bool v6.2.off), .v (.int .i64 v6.2.trip), .v (.int .i64 v6.2.tripKeep)]), (37, .v (.int .i64 v6.1))] [[35],[35,38,1],[35,39,1],[35,40,1],[35,41,1],[35,37,42],[35,43],[44]] ⟨op_callP _ _ _ _ 37 34 [.tmp 36] [] _ _ _ rfl call34 rfl rfl rfl (ok_diary_Diary_Len v5.2 _ hv6) (zl rfl) rfl rfl rfl rfl rfl rfl rfl rfl⟩ ?_
      refine wd hg3_26 [[45],[45],[45],[45],[45],[45],[45],[45],[53],[54],[54],[54],[54],[54],[54],[60],[61],[61],[61],[61],[61],[61],[61],[61],[69],[70],[70],[70],[70],[74],[75],[75],[75],[75],[79]] ?_
      refine we hn [0,1,4,0,1] ?_
      exact hl23 _ (Option.some.inj h).symm
    ·refine wb [[0]] ?_
     refine wK [0] [19] ?_
     refine wt [(0, .box 64 [.v (.int .i64 v3.2.limit), .fr (.own 46) false 15 (List.flatten (List.map T_Rec.ienc v3.2.recs)), .v (.int .i64 v3.2.used), .v (.int .i64 v3.2.safe), .v (.int .i64 v3.2.kept), .v (.int .i64 v3.2.life), .v (.bool v3.2.off), .v (.int .i64 v3.2.trip), .v (.int .i64 v3.2.tripKeep)]), (20, .v (.bool v3.1))] [[],[21,1],[22,1],[23,1]] ⟨op_callP _ _ _ _ 20 37 [.tmp 19] [] _ _ _ rfl call37 rfl rfl rfl (ok_diary_Diary_Off v1.2.2 _ hv3) (zl rfl) rfl rfl rfl rfl rfl rfl rfl rfl⟩ ?_
     refine wN [20,24] ?_
     refine wS (.v (.bool (v3.1 == v2.2.2.IsOff))) [[25]] ⟨op_beq _ _ _ _ underlying4 rfl rfl⟩ ?_
     refine wd hg3_7 [[26,0]] ?_
     refine wK [0] [26,27] ?_
     refine wt [(0, .box 64 [.v (.int .i64 v5.2.limit), .fr (.own 46) false 15 (List.flatten (List.map T_Rec.ienc v5.2.recs)), .v (.int .i64 v5.2.used), .v (.int .i64 v5.2.safe), .v (.int .i64 v5.2.kept), .v (.int .i64 v5.2.life), .v (.bool v5.2.off), .v (.int .i64 v5.2.trip), .v (.int .i64 v5.2.tripKeep)]), (28, .v (.int .i64 v5.1))] [[26],[26,29,1],[26,30,1],[26,31,1],[26,28,32],[26,33],[34]] ⟨op_callP _ _ _ _ 28 36 [.tmp 27] [] _ _ _ rfl call36 rfl rfl rfl (ok_diary_Diary_Life v3.2 _ hv5) (zl rfl) rfl rfl rfl rfl rfl rfl rfl rfl⟩ ?_
     refine wd hg3_16 [[35],[35],[35],[35],[35],[35],[35],[35],[35],[44],[45],[45],[45],[45],[45],[45],[45],[45],[53],[54],[54],[54],[54],[54],[54],[60],[61],[61],[61],[61],[61],[61],[61],[61],[69],[70],[70],[70],[70],[74],[75],[75],[75],[75],[79]] ?_
     refine we hn [0,1,4,0,1] ?_
     exact hl23 _ (Option.some.inj h).symm
   ·refine wb [[0]] ?_
    refine wK [0] [19] ?_
    refine wt [(0, .box 64 [.v (.int .i64 v3.2.limit), .fr (.own 46) false 15 (List.flatten (List.map T_Rec.ienc v3.2.recs)), .v (.int .i64 v3.2.used), .v (.int .i64 v3.2.safe), .v (.int .i64 v3.2.kept), .v (.int .i64 v3.2.life), .v (.bool v3.2.off), .v (.int .i64 v3.2.trip), .v (.int .i64 v3.2.tripKeep)]), (20, .v (.bool v3.1))] [[],[21,1],[22,1],[23,1]] ⟨op_callP _ _ _ _ 20 37 [.tmp 19] [] _ _ _ rfl call37 rfl rfl rfl (ok_diary_Diary_Off v1.2.2 _ hv3) (zl rfl) rfl rfl rfl rfl rfl rfl rfl rfl⟩ ?_
    refine wN [20,24] ?_
    refine wS (.v (.bool (v3.1 == v2.2.2.IsOff))) [[25]] ⟨op_beq _ _ _ _ underlying4 rfl rfl⟩ ?_
    refine wd hg3_7 [[26],[26],[26],[26],[26],[26],[26],[26],[34],[35],[35],[35],[35],[35],[35],[35],[35],[35],[44],[45],[45],[45],[45],[45],[45],[45],[45],[53],[54],[54],[54],[54],[54],[54],[60],[61],[61],[61],[61],[61],[61],[61],[61],[69],[70],[70],[70],[70],[74],[75],[75],[75],[75],[79]] ?_
    refine we hn [0,1,4,0,1] ?_
    exact hl23 _ (Option.some.inj h).symm
theorem ok_wherrykeep_Over_row (b : (List Int)) (r : (List Int)) (h : Sh.wherrykeep_Over_row b = some r) : FnP Try.prog 29 [.fl (.own 5) 1 (List.map (Value.int .u8) b)] [.fl (.own 5) 1 (List.map (Value.int .u8) r)] (.tup []) := by
  unfold Sh.wherrykeep_Over_row at h
  refine yP 17 func29 fun args0 hargs0 g0 hn hio => ?_
  refine yyy hn 1 [0,2,0] ?_
  refine ht_loopS h (fun ((s11, s12) : (List Int) × Int) => [(0, .fl (.own 5) 1 (List.map (Value.int .u8) s11)), (2, .v (.int .i64 s12)), (0, .v (List.getD args0 0 undef))]) (fun (s14 : (List Int)) => [(0, .fl (.own 5) 1 (List.map (Value.int .u8) s14)), (0, .v (List.getD args0 0 undef))]) ?_ ?_
  ·rintro s14 h
   obtain rfl := Option.some.inj h
   exact pt_endP (es := []) (posts := [.fl (.own 5) 1 (List.map (Value.int .u8) s14)]) hio rfl rfl .nil rfl rfl hargs0 rfl
  ·rintro u15 hl16 hr17 ⟨s11, s12⟩ rr20 h ho18
   refine ht_seq ?_
   refine yyy hn 4 [0,2,6,0] ?_
   refine ht_cond _ rfl (fun hb21 => ?_) (fun hb21 => ?_)
   ·have h := cond_t hb21 h
    refine ht_skip ?_
    refine pt_then (ht_seq ?_)
    refine ht_block ?_
    obtain ⟨v2, hv2, h⟩ := bind_some h
    obtain ⟨v3, hv3, h⟩ := bind_some h
    obtain ⟨v4, hv4, h⟩ := bind_some h
    obtain ⟨v5, hv5, h⟩ := bind_some h
    obtain ⟨v6, hv6, h⟩ := bind_some h
    refine yx hn 4 ?_
    refine ys 0 ⟨li hv2⟩ ?_
    refine ys 0 ⟨ll hv3⟩ ?_
    refine ys 0 ⟨lb hv4⟩ ?_
    refine ys 0 ⟨li hv5⟩ ?_
    refine yk [0] [16,15] ?_
    refine yt (0, .fl (.own 5) 1 (List.map (Value.int .u8) v6)) 0 ⟨op_store_e _ _ _ _ _ _ _ _ sz5 rfl rfl rfl (by decide) (map_lt (ix_ok hv5).2) ((map_set (f := Value.int .u8) _ (ix_ok hv5).2).trans (congrArg (List.map _) (Option.some.inj hv6)))⟩ ?_
    refine ye [0,2,0] ?_
    refine pt_inb ?_
    refine pt_then ?_
    obtain ⟨v7, hv7, h⟩ := bind_some h
    refine yx hn 1 ?_
    refine ys 0 ⟨lb hv7⟩ ?_
    refine yw [2] 1 ?_
    refine ye [0,2,0] ?_
    exact pt_next _ (Option.some.inj h).symm rfl
   ·have h := cond_f hb21 h
    refine ht_exit ?_
    refine pt_x_then ?_
    refine pt_x_then ?_
    refine pt_x_in ?_
    refine pt_pick [0, 3] (by kernel_rfl) (es' := [(_,_),(_,_)]) rfl ?_
    exact hl16 _ (ho18 _ (Option.some.inj h).symm).symm
theorem ok_wherrylaw18_wakes (r : Bool) (h : Sh.wherrylaw18_wakes  = some r) : FnOK Try.prog 12 [] (.v (.bool r)) := by
  unfold Sh.wherrylaw18_wakes at h
  refine yO 74 func12 fun g0 hn hio => ?_
  refine yyy hn 1 [] ?_
  refine ht_seq ?_
  obtain ⟨v1, hv1, h⟩ := bind_some h
  refine yx hn 0 ?_
  refine ys 0 ⟨lk call10 (ok_diary_New _ _ hv1)⟩ ?_
  refine ym 0 ?_
  refine yx_ 1 ?_
  refine ya 1 ?_
  refine ye [1,2] ?_
  refine pt_ob (d := default) (f := fun (v2 : T_diary_Diary) => [.v (.int .i64 v2.limit), .fr (.own 46) false 15 (List.flatten (List.map T_Rec.ienc v2.recs)), .v (.int .i64 v2.used), .v (.int .i64 v2.safe), .v (.int .i64 v2.kept), .v (.int .i64 v2.life), .v (.bool v2.off), .v (.int .i64 v2.trip), .v (.int .i64 v2.tripKeep)]) 0 9 1 64 h (es1 := fun v2 => [(1, .box 64 [.v (.int .i64 v2.limit), .fr (.own 46) false 15 (List.flatten (List.map T_Rec.ienc v2.recs)), .v (.int .i64 v2.used), .v (.int .i64 v2.safe), .v (.int .i64 v2.kept), .v (.int .i64 v2.life), .v (.bool v2.off), .v (.int .i64 v2.trip), .v (.int .i64 v2.tripKeep)]), (2, .v (.int .i64 v1.2))]) (es0 := [(1, .v (.pointer none)), (2, .v (.int .i64 v1.2))]) rfl (fun _ => rfl) (by kernel_rfl) (fun _ => rfl) (fun _ => rfl) rfl (fun v2 hv3 h => ?_) (fun hv3 h => ?_)
  ·refine pt_then (ht_seq ?_)
   refine ht_seq ?_
   refine ht_joinS h (fun ((s7, s8, s9, s10, s11, s12, s13, s14, s15, s16) : Int × (List T_Rec) × Int × Int × Int × Int × Bool × Int × Int × Bool) => [(1, .box 64 [.v (.int .i64 s7), .fr (.own 46) false 15 (List.flatten (List.map T_Rec.ienc s8)), .v (.int .i64 s9), .v (.int .i64 s10), .v (.int .i64 s11), .v (.int .i64 s12), .v (.bool s13), .v (.int .i64 s14), .v (.int .i64 s15)]), (30, .v (.bool s16))]) ?_ ?_
   ·rintro ⟨s7, s8, s9, s10, s11, s12, s13, s14, s15, s16⟩ h
    refine pt_then ?_
    refine ht_cond _ rfl (fun hb20 => ?_) (fun hb20 => ?_)
    ·have h := cond_t hb20 h
     refine yyy hn 1 [0] ?_
     refine ht_ret ?_
     refine pt_r_then ?_
     obtain rfl := Option.some.inj h
     exact pt_ret hio rfl (.tmp _ _ .nil) rfl rfl
    ·have h := cond_f hb20 h
     refine ht_skip ?_
     refine pt_then (ht_seq ?_)
     obtain ⟨v21, hv21, h⟩ := bind_some h
     refine yx hn 1 ?_
     refine yQ call21 (ok_diary_Diary_Crash _ _ _ hv21) 1 [31] 0 ?_
     refine yee [1] ?_
     refine ht_seq ?_
     obtain ⟨v22, hv22, h⟩ := bind_some h
     refine yx hn 1 ?_
     refine yQ call25 (ok_diary_Diary_Start _ _ hv22) 1 [33] 0 ?_
     refine yee [1] ?_
     refine ht_seq ?_
     obtain ⟨v23, hv23, h⟩ := bind_some h
     refine yx hn 1 ?_
     refine yk [1] [36] ?_
     refine ytt (1, .box 64 [.v (.int .i64 v23.2.2.limit), .fr (.own 46) false 15 (List.flatten (List.map T_Rec.ienc v23.2.2.recs)), .v (.int .i64 v23.2.2.used), .v (.int .i64 v23.2.2.safe), .v (.int .i64 v23.2.2.kept), .v (.int .i64 v23.2.2.life), .v (.bool v23.2.2.off), .v (.int .i64 v23.2.2.trip), .v (.int .i64 v23.2.2.tripKeep)]) (37, .tup [.hid (ownJ 46 15 (List.flatten (List.map oe46 v23.1))), .v (.int .i64 v23.2.1)]) 0 ⟨op_callPL _ _ _ _ 37 30 [.tmp 36] [] _ _ _ rfl call30 rfl rfl lend_nil (ok_diary_Diary_Read v22 _ hv23) (zl rfl) rfl rfl rfl (noIm_tup (noIms_cons (noIm_hid (oe_closed oe46_c _) (oe_noShr oe46_s _)) (noIms_cons (noIm_of rfl rfl) (noIms_nil)))) (noIms_of rfl rfl) rfl rfl rfl⟩ ?_
     refine ym 0 ?_
     refine yx_ 1 ?_
     refine ya 1 ?_
     refine yee [1,3,2] ?_
     refine ht_seq ?_
     refine ht_joinS h (fun (s30 : Bool) => [(0, .v (.bool s30))]) ?_ ?_
     ·rintro s30 h
      refine pt_then (ht_ret ?_)
      obtain rfl := Option.some.inj h
      exact pt_ret hio rfl (.tmp _ _ .nil) rfl rfl
     ·intro u31 h hl32 hr33
      refine cond_some h (fun hg7_2 h => ?_) (fun hg7_2 h => ?_)
      ·refine cond_some h (fun hg7_7 h => ?_) (fun hg7_7 h => ?_)
       ·obtain ⟨v24, hv24, h⟩ := bind_some h
        obtain ⟨v25, hv25, h⟩ := bind_some h
        refine cond_some h (fun hg7_14 h => ?_) (fun hg7_14 h => ?_)
        ·obtain ⟨v26, hv26, h⟩ := bind_some h
         refine cond_some h (fun hg7_19 h => ?_) (fun hg7_19 h => ?_)
         ·obtain ⟨v27, hv27, h⟩ := bind_some h
          refine cond_some h (fun hg7_24 h => ?_) (fun hg7_24 h => ?_)
          ·obtain ⟨v28, hv28, h⟩ := bind_some h
           refine cond_some h (fun hg7_29 h => ?_) (fun hg7_29 h => ?_)
           ·obtain ⟨v29, hv29, h⟩ := bind_some h
            refine ht_pick [1, 0, 2] rfl rfl ?_
            refine ht_openO 83 fun ov7 oh7 => ?_
            refine yx hn 3 ?_
            refine yd hg7_2 1 ?_
            refine yS (.v (.int .i64 (v23.1.length : Int))) 3 ⟨op_len_fl _ _ _ underlying31 rfl (by decide) (oe_len oe46_l oh7)⟩ ?_
            refine yd hg7_7 0 ?_
            refine yw [43] 0 ?_
            refine ym 0 ?_
            refine yS (.eref (.slot 48) (v24 * 15)) 1 ⟨op_ix _ _ _ _ _ _ _ _ underlying31 sz46 (by decide) rfl rfl rfl (ix_ok hv24).1 (oe_lt oe46_l oh7 (ix_ok hv24).2) rfl⟩ ?_
            refine yS (.v (.int .i64 v25.Id)) 3 ⟨LOp.ownEq (gs := 83) (by repeat first | exact List.Mem.head _ | apply List.Mem.tail) (oe_get (q := 9) oe46_l oh7 hv25 (by decide)) (gflat_cell oe46_l hv25 rfl) (fun e => op_load_e _ _ _ _ _ _ underlying3 rfl rfl rfl ((oe_get (q := 9) oe46_l oh7 hv25 (by decide)).trans (congrArg some e)))⟩ ?_
            refine yd hg7_14 1 ?_
            refine yQ call35 (ok_diary_Diary_Used _ _ hv26) 1 [55] 3 ?_
            refine yd hg7_19 1 ?_
            refine yQ call36 (ok_diary_Diary_Life _ _ hv27) 1 [60] 3 ?_
            refine yd hg7_24 0 ?_
            refine yw [55, 60] 0 ?_
            refine ym 0 ?_
            refine yQ call32 (ok_diary_Diary_Kept _ _ hv28) 65 [] 3 ?_
            refine yd hg7_29 0 ?_
            refine yS (.agg [.v (.int .i64 0), .v (.bool false), .v (.string (⟨#[]⟩ : ByteArray)), .v (.string (⟨#[]⟩ : ByteArray)), .v (.slice none 0 0), .v (.slice none 0 0), .v (.bool false), .v (.string (⟨#[]⟩ : ByteArray)), .v (.int .i64 0), .v (.int .i64 0), .v (.slice none 0 0), .v (.int .i64 0), .v (.int .i64 0), .v (.int .i64 0), .v (.slice none 0 0)]) 0 ⟨op_build _ _ _ _ [1, 8, 1, 1, 1, 1, 1, 1] _ _ underlying46 zr46 (fs46 _ underlying46) Src.nil rfl rfl rfl⟩ ?_
            refine yS (.v (.int .i64 v29)) 3 ⟨op_call _ _ 33 _ _ rfl call33 rfl ((ok_diary_Room ((T_Rec.mk 0 ((T_Mail.mk ((T_Path.mk false (⟨#[]⟩ : ByteArray) (⟨#[]⟩ : ByteArray))) [] [] false (⟨#[]⟩ : ByteArray) 0)) 0 [] 0 0 0 [])) _ hv29).args (subs_cons (sub_agg (subs_cons (sub_refl _) (subs_cons (sub_refl _) (subs_cons (sub_refl _) (subs_cons (sub_refl _) (subs_cons (sub_nil_shr 3) (subs_cons (sub_nil_shr 1) (subs_cons (sub_refl _) (subs_cons (sub_refl _) (subs_cons (sub_refl _) (subs_cons (sub_refl _) (subs_cons (sub_nil_shr 1) (subs_cons (sub_refl _) (subs_cons (sub_refl _) (subs_cons (sub_refl _) (subs_cons (sub_nil_shr 1) (subs_nil))))))))))))))))) (subs_nil))) rfl rfl⟩ ?_
            refine ye [0] ?_
            exact hl32 _ (Option.some.inj h).symm
           ·refine ht_pick [1, 0, 2] rfl rfl ?_
            refine ht_openO 83 fun ov7 oh7 => ?_
            refine yx hn 3 ?_
            refine yd hg7_2 1 ?_
            refine yS (.v (.int .i64 (v23.1.length : Int))) 3 ⟨op_len_fl _ _ _ underlying31 rfl (by decide) (oe_len oe46_l oh7)⟩ ?_
            refine yd hg7_7 0 ?_
            refine yw [43] 0 ?_
            refine ym 0 ?_
            refine yS (.eref (.slot 48) (v24 * 15)) 1 ⟨op_ix _ _ _ _ _ _ _ _ underlying31 sz46 (by decide) rfl rfl rfl (ix_ok hv24).1 (oe_lt oe46_l oh7 (ix_ok hv24).2) rfl⟩ ?_
            refine yS (.v (.int .i64 v25.Id)) 3 ⟨LOp.ownEq (gs := 83) (by repeat first | exact List.Mem.head _ | apply List.Mem.tail) (oe_get (q := 9) oe46_l oh7 hv25 (by decide)) (gflat_cell oe46_l hv25 rfl) (fun e => op_load_e _ _ _ _ _ _ underlying3 rfl rfl rfl ((oe_get (q := 9) oe46_l oh7 hv25 (by decide)).trans (congrArg some e)))⟩ ?_
            refine yd hg7_14 1 ?_
            refine yQ call35 (ok_diary_Diary_Used _ _ hv26) 1 [55] 3 ?_
            refine yd hg7_19 1 ?_
            refine yQ call36 (ok_diary_Diary_Life _ _ hv27) 1 [60] 3 ?_
            refine yd hg7_24 0 ?_
            refine yw [55, 60] 0 ?_
            refine ym 0 ?_
            refine yQ call32 (ok_diary_Diary_Kept _ _ hv28) 65 [] 3 ?_
            refine yd hg7_29 5 ?_
            refine ye [0] ?_
            exact hl32 _ (Option.some.inj h).symm
          ·refine ht_pick [1, 0, 2] rfl rfl ?_
           refine ht_openO 83 fun ov7 oh7 => ?_
           refine yx hn 3 ?_
           refine yd hg7_2 1 ?_
           refine yS (.v (.int .i64 (v23.1.length : Int))) 3 ⟨op_len_fl _ _ _ underlying31 rfl (by decide) (oe_len oe46_l oh7)⟩ ?_
           refine yd hg7_7 0 ?_
           refine yw [43] 0 ?_
           refine ym 0 ?_
           refine yS (.eref (.slot 48) (v24 * 15)) 1 ⟨op_ix _ _ _ _ _ _ _ _ underlying31 sz46 (by decide) rfl rfl rfl (ix_ok hv24).1 (oe_lt oe46_l oh7 (ix_ok hv24).2) rfl⟩ ?_
           refine yS (.v (.int .i64 v25.Id)) 3 ⟨LOp.ownEq (gs := 83) (by repeat first | exact List.Mem.head _ | apply List.Mem.tail) (oe_get (q := 9) oe46_l oh7 hv25 (by decide)) (gflat_cell oe46_l hv25 rfl) (fun e => op_load_e _ _ _ _ _ _ underlying3 rfl rfl rfl ((oe_get (q := 9) oe46_l oh7 hv25 (by decide)).trans (congrArg some e)))⟩ ?_
           refine yd hg7_14 1 ?_
           refine yQ call35 (ok_diary_Diary_Used _ _ hv26) 1 [55] 3 ?_
           refine yd hg7_19 1 ?_
           refine yQ call36 (ok_diary_Diary_Life _ _ hv27) 1 [60] 3 ?_
           refine yd hg7_24 10 ?_
           refine ye [0] ?_
           exact hl32 _ (Option.some.inj h).symm
         ·refine ht_pick [1, 0, 2] rfl rfl ?_
          refine ht_openO 83 fun ov7 oh7 => ?_
          refine yx hn 3 ?_
          refine yd hg7_2 1 ?_
          refine yS (.v (.int .i64 (v23.1.length : Int))) 3 ⟨op_len_fl _ _ _ underlying31 rfl (by decide) (oe_len oe46_l oh7)⟩ ?_
          refine yd hg7_7 0 ?_
          refine yw [43] 0 ?_
          refine ym 0 ?_
          refine yS (.eref (.slot 48) (v24 * 15)) 1 ⟨op_ix _ _ _ _ _ _ _ _ underlying31 sz46 (by decide) rfl rfl rfl (ix_ok hv24).1 (oe_lt oe46_l oh7 (ix_ok hv24).2) rfl⟩ ?_
          refine yS (.v (.int .i64 v25.Id)) 3 ⟨LOp.ownEq (gs := 83) (by repeat first | exact List.Mem.head _ | apply List.Mem.tail) (oe_get (q := 9) oe46_l oh7 hv25 (by decide)) (gflat_cell oe46_l hv25 rfl) (fun e => op_load_e _ _ _ _ _ _ underlying3 rfl rfl rfl ((oe_get (q := 9) oe46_l oh7 hv25 (by decide)).trans (congrArg some e)))⟩ ?_
          refine yd hg7_14 1 ?_
          refine yQ call35 (ok_diary_Diary_Used _ _ hv26) 1 [55] 3 ?_
          refine yd hg7_19 15 ?_
          refine ye [0] ?_
          exact hl32 _ (Option.some.inj h).symm
        ·refine ht_pick [1, 0, 2] rfl rfl ?_
         refine ht_openO 83 fun ov7 oh7 => ?_
         refine yx hn 3 ?_
         refine yd hg7_2 1 ?_
         refine yS (.v (.int .i64 (v23.1.length : Int))) 3 ⟨op_len_fl _ _ _ underlying31 rfl (by decide) (oe_len oe46_l oh7)⟩ ?_
         refine yd hg7_7 0 ?_
         refine yw [43] 0 ?_
         refine ym 0 ?_
         refine yS (.eref (.slot 48) (v24 * 15)) 1 ⟨op_ix _ _ _ _ _ _ _ _ underlying31 sz46 (by decide) rfl rfl rfl (ix_ok hv24).1 (oe_lt oe46_l oh7 (ix_ok hv24).2) rfl⟩ ?_
         refine yS (.v (.int .i64 v25.Id)) 3 ⟨LOp.ownEq (gs := 83) (by repeat first | exact List.Mem.head _ | apply List.Mem.tail) (oe_get (q := 9) oe46_l oh7 hv25 (by decide)) (gflat_cell oe46_l hv25 rfl) (fun e => op_load_e _ _ _ _ _ _ underlying3 rfl rfl rfl ((oe_get (q := 9) oe46_l oh7 hv25 (by decide)).trans (congrArg some e)))⟩ ?_
         refine yd hg7_14 20 ?_
         refine ye [0] ?_
         exact hl32 _ (Option.some.inj h).symm
       ·refine ht_pick [1, 0, 2] rfl rfl ?_
        refine ht_openO 83 fun ov7 oh7 => ?_
        refine yx hn 3 ?_
        refine yd hg7_2 1 ?_
        refine yS (.v (.int .i64 (v23.1.length : Int))) 3 ⟨op_len_fl _ _ _ underlying31 rfl (by decide) (oe_len oe46_l oh7)⟩ ?_
        refine yd hg7_7 27 ?_
        refine ye [0] ?_
        exact hl32 _ (Option.some.inj h).symm
      ·refine ht_pick [1, 0, 2] rfl rfl ?_
       refine ht_openO 83 fun ov7 oh7 => ?_
       refine yx hn 3 ?_
       refine yd hg7_2 32 ?_
       refine ye [0] ?_
       exact hl32 _ (Option.some.inj h).symm
   ·intro u17 h hl18 hr19
    refine cond_some h (fun hg2_2 h => ?_) (fun hg2_2 h => ?_)
    ·refine yx hn 3 ?_
     refine yd hg2_2 20 ?_
     refine ye [1,30] ?_
     exact hl18 _ (Option.some.inj h).symm
    ·obtain ⟨v4, hv4, h⟩ := bind_some h
     refine cond_some h (fun hg2_12 h => ?_) (fun hg2_12 h => ?_)
     ·refine yx hn 3 ?_
      refine yd hg2_2 1 ?_
      refine yS (.v (.bool false)) 3 ⟨op_pnil _ _ false (by kernel_rfl) rfl rfl⟩ ?_
      refine yS (.agg [.v (.int .i64 0), .v (.bool false), .v (.string (⟨#[]⟩ : ByteArray)), .v (.string (⟨#[]⟩ : ByteArray)), .v (.slice none 0 0), .v (.slice none 0 0), .v (.bool false), .v (.string (⟨#[]⟩ : ByteArray)), .v (.int .i64 0), .v (.int .i64 1), .v (.slice none 0 0), .v (.int .i64 0), .v (.int .i64 0), .v (.int .i64 0), .v (.slice none 0 0)]) 0 ⟨op_build _ _ _ _ [1, 8, 1, 1, 1, 1, 1, 1] _ _ underlying46 zr46 (fs46 _ underlying46) (.copy _ Src.nil) rfl rfl rfl⟩ ?_
      refine yk [1] [15,16] ?_
      refine ytt (1, .box 64 [.v (.int .i64 v4.2.limit), .fr (.own 46) false 15 (List.flatten (List.map T_Rec.ienc v4.2.recs)), .v (.int .i64 v4.2.used), .v (.int .i64 v4.2.safe), .v (.int .i64 v4.2.kept), .v (.int .i64 v4.2.life), .v (.bool v4.2.off), .v (.int .i64 v4.2.trip), .v (.int .i64 v4.2.tripKeep)]) (17, .v (.int .i64 v4.1)) 3 ⟨op_callP _ _ _ _ 17 15 [.tmp 15] [.tmp 16] _ _ _ rfl call15 rfl rfl rfl ((ok_diary_Diary_Put v2 ((T_Rec.mk 0 ((T_Mail.mk ((T_Path.mk false (⟨#[]⟩ : ByteArray) (⟨#[]⟩ : ByteArray))) [] [] false (⟨#[]⟩ : ByteArray) 0)) 1 [] 0 0 0 [])) _ hv4).args (subs_cons (sub_refl _) (subs_cons (sub_agg (subs_cons (sub_refl _) (subs_cons (sub_refl _) (subs_cons (sub_refl _) (subs_cons (sub_refl _) (subs_cons (sub_nil_shr 3) (subs_cons (sub_nil_shr 1) (subs_cons (sub_refl _) (subs_cons (sub_refl _) (subs_cons (sub_refl _) (subs_cons (sub_refl _) (subs_cons (sub_nil_shr 1) (subs_cons (sub_refl _) (subs_cons (sub_refl _) (subs_cons (sub_refl _) (subs_cons (sub_nil_shr 1) (subs_nil))))))))))))))))) (subs_nil)))) (zl rfl) rfl rfl rfl rfl rfl rfl rfl rfl⟩ ?_
      refine yd hg2_12 10 ?_
      refine ye [1,30] ?_
      exact hl18 _ (Option.some.inj h).symm
     ·obtain ⟨v5, hv5, h⟩ := bind_some h
      refine cond_some h (fun hg2_17 h => ?_) (fun hg2_17 h => ?_)
      ·refine yx hn 3 ?_
       refine yd hg2_2 1 ?_
       refine yS (.v (.bool false)) 3 ⟨op_pnil _ _ false (by kernel_rfl) rfl rfl⟩ ?_
       refine yS (.agg [.v (.int .i64 0), .v (.bool false), .v (.string (⟨#[]⟩ : ByteArray)), .v (.string (⟨#[]⟩ : ByteArray)), .v (.slice none 0 0), .v (.slice none 0 0), .v (.bool false), .v (.string (⟨#[]⟩ : ByteArray)), .v (.int .i64 0), .v (.int .i64 1), .v (.slice none 0 0), .v (.int .i64 0), .v (.int .i64 0), .v (.int .i64 0), .v (.slice none 0 0)]) 0 ⟨op_build _ _ _ _ [1, 8, 1, 1, 1, 1, 1, 1] _ _ underlying46 zr46 (fs46 _ underlying46) (.copy _ Src.nil) rfl rfl rfl⟩ ?_
       refine yk [1] [15,16] ?_
       refine ytt (1, .box 64 [.v (.int .i64 v4.2.limit), .fr (.own 46) false 15 (List.flatten (List.map T_Rec.ienc v4.2.recs)), .v (.int .i64 v4.2.used), .v (.int .i64 v4.2.safe), .v (.int .i64 v4.2.kept), .v (.int .i64 v4.2.life), .v (.bool v4.2.off), .v (.int .i64 v4.2.trip), .v (.int .i64 v4.2.tripKeep)]) (17, .v (.int .i64 v4.1)) 3 ⟨op_callP _ _ _ _ 17 15 [.tmp 15] [.tmp 16] _ _ _ rfl call15 rfl rfl rfl ((ok_diary_Diary_Put v2 ((T_Rec.mk 0 ((T_Mail.mk ((T_Path.mk false (⟨#[]⟩ : ByteArray) (⟨#[]⟩ : ByteArray))) [] [] false (⟨#[]⟩ : ByteArray) 0)) 1 [] 0 0 0 [])) _ hv4).args (subs_cons (sub_refl _) (subs_cons (sub_agg (subs_cons (sub_refl _) (subs_cons (sub_refl _) (subs_cons (sub_refl _) (subs_cons (sub_refl _) (subs_cons (sub_nil_shr 3) (subs_cons (sub_nil_shr 1) (subs_cons (sub_refl _) (subs_cons (sub_refl _) (subs_cons (sub_refl _) (subs_cons (sub_refl _) (subs_cons (sub_nil_shr 1) (subs_cons (sub_refl _) (subs_cons (sub_refl _) (subs_cons (sub_refl _) (subs_cons (sub_nil_shr 1) (subs_nil))))))))))))))))) (subs_nil)))) (zl rfl) rfl rfl rfl rfl rfl rfl rfl rfl⟩ ?_
       refine yd hg2_12 1 ?_
       refine yQ call17 (ok_diary_Diary_Sync _ _ hv5) 1 [21] 3 ?_
       refine yd hg2_17 5 ?_
       refine ye [1,30] ?_
       exact hl18 _ (Option.some.inj h).symm
      ·obtain ⟨v6, hv6, h⟩ := bind_some h
       refine yx hn 3 ?_
       refine yd hg2_2 1 ?_
       refine yS (.v (.bool false)) 3 ⟨op_pnil _ _ false (by kernel_rfl) rfl rfl⟩ ?_
       refine yS (.agg [.v (.int .i64 0), .v (.bool false), .v (.string (⟨#[]⟩ : ByteArray)), .v (.string (⟨#[]⟩ : ByteArray)), .v (.slice none 0 0), .v (.slice none 0 0), .v (.bool false), .v (.string (⟨#[]⟩ : ByteArray)), .v (.int .i64 0), .v (.int .i64 1), .v (.slice none 0 0), .v (.int .i64 0), .v (.int .i64 0), .v (.int .i64 0), .v (.slice none 0 0)]) 0 ⟨op_build _ _ _ _ [1, 8, 1, 1, 1, 1, 1, 1] _ _ underlying46 zr46 (fs46 _ underlying46) (.copy _ Src.nil) rfl rfl rfl⟩ ?_
       refine yk [1] [15,16] ?_
       refine ytt (1, .box 64 [.v (.int .i64 v4.2.limit), .fr (.own 46) false 15 (List.flatten (List.map T_Rec.ienc v4.2.recs)), .v (.int .i64 v4.2.used), .v (.int .i64 v4.2.safe), .v (.int .i64 v4.2.kept), .v (.int .i64 v4.2.life), .v (.bool v4.2.off), .v (.int .i64 v4.2.trip), .v (.int .i64 v4.2.tripKeep)]) (17, .v (.int .i64 v4.1)) 3 ⟨op_callP _ _ _ _ 17 15 [.tmp 15] [.tmp 16] _ _ _ rfl call15 rfl rfl rfl ((ok_diary_Diary_Put v2 ((T_Rec.mk 0 ((T_Mail.mk ((T_Path.mk false (⟨#[]⟩ : ByteArray) (⟨#[]⟩ : ByteArray))) [] [] false (⟨#[]⟩ : ByteArray) 0)) 1 [] 0 0 0 [])) _ hv4).args (subs_cons (sub_refl _) (subs_cons (sub_agg (subs_cons (sub_refl _) (subs_cons (sub_refl _) (subs_cons (sub_refl _) (subs_cons (sub_refl _) (subs_cons (sub_nil_shr 3) (subs_cons (sub_nil_shr 1) (subs_cons (sub_refl _) (subs_cons (sub_refl _) (subs_cons (sub_refl _) (subs_cons (sub_refl _) (subs_cons (sub_nil_shr 1) (subs_cons (sub_refl _) (subs_cons (sub_refl _) (subs_cons (sub_refl _) (subs_cons (sub_nil_shr 1) (subs_nil))))))))))))))))) (subs_nil)))) (zl rfl) rfl rfl rfl rfl rfl rfl rfl rfl⟩ ?_
       refine yd hg2_12 1 ?_
       refine yQ call17 (ok_diary_Diary_Sync _ _ hv5) 1 [21] 3 ?_
       refine yd hg2_17 1 ?_
       refine yS (.agg [.v (.int .i64 0), .v (.bool false), .v (.string (⟨#[]⟩ : ByteArray)), .v (.string (⟨#[]⟩ : ByteArray)), .v (.slice none 0 0), .v (.slice none 0 0), .v (.bool false), .v (.string (⟨#[]⟩ : ByteArray)), .v (.int .i64 0), .v (.int .i64 2), .v (.slice none 0 0), .v (.int .i64 0), .v (.int .i64 0), .v (.int .i64 0), .v (.slice none 0 0)]) 0 ⟨op_build _ _ _ _ [1, 8, 1, 1, 1, 1, 1, 1] _ _ underlying46 zr46 (fs46 _ underlying46) (.copy _ Src.nil) rfl rfl rfl⟩ ?_
       refine yk [1] [26,27] ?_
       refine ytt (1, .box 64 [.v (.int .i64 v6.2.limit), .fr (.own 46) false 15 (List.flatten (List.map T_Rec.ienc v6.2.recs)), .v (.int .i64 v6.2.used), .v (.int .i64 v6.2.safe), .v (.int .i64 v6.2.kept), .v (.int .i64 v6.2.life), .v (.bool v6.2.off), .v (.int .i64 v6.2.trip), .v (.int .i64 v6.2.tripKeep)]) (28, .v (.int .i64 v6.1)) 2 ⟨op_callP _ _ _ _ 28 15 [.tmp 26] [.tmp 27] _ _ _ rfl call15 rfl rfl rfl ((ok_diary_Diary_Put v5.2 ((T_Rec.mk 0 ((T_Mail.mk ((T_Path.mk false (⟨#[]⟩ : ByteArray) (⟨#[]⟩ : ByteArray))) [] [] false (⟨#[]⟩ : ByteArray) 0)) 2 [] 0 0 0 [])) _ hv6).args (subs_cons (sub_refl _) (subs_cons (sub_agg (subs_cons (sub_refl _) (subs_cons (sub_refl _) (subs_cons (sub_refl _) (subs_cons (sub_refl _) (subs_cons (sub_nil_shr 3) (subs_cons (sub_nil_shr 1) (subs_cons (sub_refl _) (subs_cons (sub_refl _) (subs_cons (sub_refl _) (subs_cons (sub_refl _) (subs_cons (sub_nil_shr 1) (subs_cons (sub_refl _) (subs_cons (sub_refl _) (subs_cons (sub_refl _) (subs_cons (sub_nil_shr 1) (subs_nil))))))))))))))))) (subs_nil)))) (zl rfl) rfl rfl rfl rfl rfl rfl rfl rfl⟩ ?_
       refine ye [1,30] ?_
       exact hl18 _ (Option.some.inj h).symm
  ·refine pt_then (ht_seq ?_)
   refine ht_seq ?_
   refine ht_joinS h (fun (() : Unit) => [(1, .v (.pointer none)), (30, .v (.bool true))]) ?_ ?_
   ·rintro ⟨⟩ h
    refine pt_then ?_
    refine ht_cond true rfl (fun _ => ?_) (fun hb => by cases hb)
    refine yyy hn 1 [0] ?_
    refine ht_ret ?_
    refine pt_r_then ?_
    obtain rfl := Option.some.inj h
    exact pt_ret hio rfl (.tmp _ _ .nil) rfl rfl
   ·intro u34 h hl35 hr36
    refine cond_some h (fun hg2_2 h => ?_) (fun hg2_2 h => ?_)
    ·refine yx hn 3 ?_
     refine yd hg2_2 20 ?_
     refine ye [1,30] ?_
     exact hl35 _ (Option.some.inj h).symm
    ·refine yx hn 3 ?_
     refine yd hg2_2 1 ?_
     refine yS (.v (.bool true)) 18 ⟨op_nilnil _ _ false (by kernel_rfl) rfl rfl⟩ ?_
     refine ye [1,30] ?_
     exact hl35 _ (Option.some.inj h).symm
end Go.Proofs.Ytbioodcjmceefaa
