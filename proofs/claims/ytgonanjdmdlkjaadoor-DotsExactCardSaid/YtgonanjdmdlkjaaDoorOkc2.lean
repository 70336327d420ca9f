/-
  The model's runs are what is told in Lean.
-/
import Derived.Test.YtgonanjdmdlkjaaDoorProg
import Derived.KernelRfl
import Derived.Test.YtgonanjdmdlkjaaDoorShelf
import Derived.Test.YtgonanjdmdlkjaaDoorIdx
import Derived.Test.YtgonanjdmdlkjaaDoorBD
import Derived.Test.YtgonanjdmdlkjaaDoorC1
import Derived.Test.YtgonanjdmdlkjaaDoorOkc1
set_option linter.unusedVariables false
set_option linter.unusedSimpArgs false
set_option maxHeartbeats 1000000
namespace Go.Proofs.YtgonanjdmdlkjaaDoor
open Go.Abs Go.Abs.Sh Tryd
theorem ok_wherryref11_Strip (b : (List Int)) (r : ((List Int) × Int × Int)) (h : Sh.wherryref11_Strip b = some r) : FnOK Tryd.prog 13 [.fl .shr 1 (List.map (Value.int .u8) b)] (.tup [.fl (.own 5) 1 (List.map (Value.int .u8) r.1), .v (.int .i64 r.2.1), .v (.int .i64 r.2.2)]) := by
  unfold Sh.wherryref11_Strip at h
  refine yO 49 func13 fun g0 hn hio => ?_
  refine yyy hn 3 [0] ?_
  refine ht_seq ?_
  obtain ⟨v1, hv1, h⟩ := bind_some h
  refine yx hn 1 ?_
  refine ys 1 ⟨lk call26 (ok_wherryref11_dot _ _ hv1)⟩ ?_
  refine yee [0,5] ?_
  refine ht_seq ?_
  refine yyy hn 2 [0,5,11] ?_
  refine ht_cond _ rfl (fun hb2 => ?_) (fun hb2 => ?_)
  ·have h := cond_t hb2 h
   refine yyy hn 3 [2,3,4] ?_
   refine ht_ret ?_
   refine pt_sub (fs := [(2, .fl (.own 5) 1 (List.map (Value.int .u8) [])), (3, .v (.int .i64 0)), (4, .v (.int .i64 9))]) (.sub _ (sub_nil 5 1) rfl (.same _ (.same _ .nil))) ?_
   refine pt_r_then ?_
   obtain rfl := Option.some.inj h
   exact pt_ret hio rfl (.tmp _ _ (.tmp _ _ (.tmp _ _ .nil))) rfl rfl
  ·have h := cond_f hb2 h
   refine ht_skip ?_
   refine pt_then (ht_seq ?_)
   refine ht_seq ?_
   obtain ⟨v3, hv3, h⟩ := bind_some h
   obtain ⟨v4, hv4, h⟩ := bind_some h
   refine yx hn 2 ?_
   refine yS (.fl .shr 1 (List.map (Value.int .u8) v3)) 0 ⟨op_sl _ _ _ 0 v1 _ underlying22 sz5 rfl rfl rfl ⟨_, rfl⟩ hv3⟩ ?_
   refine ys 1 ⟨lk call16 (ok_wherryref11_Body _ _ hv4)⟩ ?_
   refine yee [0,5,16] ?_
   refine ht_cond _ rfl (fun hb5 => ?_) (fun hb5 => ?_)
   ·have h := cond_t hb5 h
    refine yyy hn 3 [2,3,4] ?_
    refine ht_ret ?_
    refine pt_sub (fs := [(2, .fl (.own 5) 1 (List.map (Value.int .u8) [])), (3, .v (.int .i64 0)), (4, .v (.int .i64 5))]) (.sub _ (sub_nil 5 1) rfl (.same _ (.same _ .nil))) ?_
    refine pt_r_then ?_
    obtain rfl := Option.some.inj h
    exact pt_ret hio rfl (.tmp _ _ (.tmp _ _ (.tmp _ _ .nil))) rfl rfl
   ·have h := cond_f hb5 h
    refine ht_skip ?_
    refine pt_then ?_
    refine yyy hn 1 [0,5,6] ?_
    refine ht_seq ?_
    refine yyy hn 1 [0,5,6,7] ?_
    refine ht_sub (fs := [(0, .fl .shr 1 (List.map (Value.int .u8) b)), (5, .v (.int .i64 v1)), (6, .fl (.own 5) 1 (List.map (Value.int .u8) [])), (7, .v (.int .i64 0))]) (.same _ (.same _ (.sub _ (sub_nil 5 1) rfl (.same _ .nil)))) ?_
    refine ht_loopS h (fun ((s47, s48) : (List Int) × Int) => [(0, .fl .shr 1 (List.map (Value.int .u8) b)), (5, .v (.int .i64 v1)), (6, .fl (.own 5) 1 (List.map (Value.int .u8) s47)), (7, .v (.int .i64 s48))]) (fun (s64 : (List Int)) => [(5, .v (.int .i64 v1)), (6, .fl (.own 5) 1 (List.map (Value.int .u8) s64))]) ?_ ?_
    ·rintro s64 h
     refine pt_then (ht_seq ?_)
     obtain ⟨v86, hv86, h⟩ := bind_some h
     refine yx hn 0 ?_
     refine ym 1 ?_
     refine ys 0 ⟨lb hv86⟩ ?_
     refine ya 2 ?_
     refine yee [2,3,4] ?_
     refine ht_ret ?_
     obtain rfl := Option.some.inj h
     exact pt_ret hio rfl (.tmp _ _ (.tmp _ _ (.tmp _ _ .nil))) rfl rfl
    ·rintro u65 hl66 hr67 ⟨s47, s48⟩ rr70 h ho68
     refine ht_seq ?_
     refine yyy hn 3 [0,5,6,7,19] ?_
     refine ht_cond _ rfl (fun hb71 => ?_) (fun hb71 => ?_)
     ·have h := cond_t hb71 h
      refine ht_skip ?_
      refine pt_then (ht_seq ?_)
      refine ht_joinS h (fun (s77 : (List Int)) => [(0, .fl .shr 1 (List.map (Value.int .u8) b)), (5, .v (.int .i64 v1)), (7, .v (.int .i64 s48)), (6, .fl (.own 5) 1 (List.map (Value.int .u8) s77))]) ?_ ?_
      ·rintro s77 h
       refine pt_then ?_
       obtain ⟨v29, hv29, h⟩ := bind_some h
       refine yx hn 1 ?_
       refine ys 0 ⟨lb hv29⟩ ?_
       refine yw [7] 1 ?_
       refine ye [0,5,6,7] ?_
       exact pt_next _ (Option.some.inj h).symm rfl
      ·intro u78 h hl79 hr80
       refine ht_block ?_
       refine ht_seq ?_
       refine ht_joinS h (fun (s81 : Bool) => [(0, .fl .shr 1 (List.map (Value.int .u8) b)), (5, .v (.int .i64 v1)), (6, .fl (.own 5) 1 (List.map (Value.int .u8) s47)), (7, .v (.int .i64 s48)), (38, .v (.bool s81))]) ?_ ?_
       ·rintro s81 h
        refine pt_then ?_
        refine ht_cond _ rfl (fun hb85 => ?_) (fun hb85 => ?_)
        ·have h := cond_t hb85 h
         obtain ⟨v17, hv17, h⟩ := bind_some h
         obtain ⟨v18, hv18, h⟩ := bind_some h
         obtain ⟨v19, hv19, h⟩ := bind_some h
         refine yx hn 0 ?_
         refine ym 2 ?_
         refine ys 0 ⟨li hv17⟩ ?_
         refine ys 0 ⟨ll hv18⟩ ?_
         refine yS (.fl (.own 5) 1 (List.map (Value.int .u8) [v18])) 0 ⟨op_buildSlice _ _ 1 (.int .u8 0) (List.map (Value.int .u8) [v18]) [(0, .int .u8 v18)] underlying22 sz5 zr5 (fun _ V w o a hv hes => by have e0 := rd_v hv hes (x := .tmp 43) rfl; simp only [List.map_toArray, List.map_cons, List.map_nil, e0]; try rfl) (litfill (by simp [Instr.fill, Value.cells]; rfl) (by simp [List.range, List.range.loop] <;> rfl)) (by simp [Value.oneCell']) rfl (by decide) (by decide) (by decide)⟩ ?_
         refine yp el22 hv19 0 ?_
         refine ya 0 ?_
         refine ye [0,5,7,6] ?_
         refine pt_inb ?_
         exact hl79 _ (Option.some.inj h).symm
        ·have h := cond_f hb85 h
         refine ht_skip ?_
         refine pt_inb ?_
         refine pt_pick [0, 1, 3, 2] (by kernel_rfl) (es' := [(_,_),(_,_),(_,_),(_,_)]) rfl ?_
         exact hl79 _ (Option.some.inj h).symm
       ·intro u82 h hl83 hr84
        obtain ⟨v7, hv7, h⟩ := bind_some h
        obtain ⟨v8, hv8, h⟩ := bind_some h
        refine cond_some h (fun hg10_5 h => ?_) (fun hg10_5 h => ?_)
        ·refine yx hn 2 ?_
         refine ys 0 ⟨li hv7⟩ ?_
         refine ys 2 ⟨ll hv8⟩ ?_
         refine yd hg10_5 11 ?_
         refine ye [0,5,6,7,38] ?_
         exact hl83 _ (Option.some.inj h).symm
        ·refine cond_some h (fun hg10_8 h => ?_) (fun hg10_8 h => ?_)
         ·obtain ⟨v9, hv9, h⟩ := bind_some h
          obtain ⟨v10, hv10, h⟩ := bind_some h
          obtain ⟨v11, hv11, h⟩ := bind_some h
          refine yx hn 2 ?_
          refine ys 0 ⟨li hv7⟩ ?_
          refine ys 2 ⟨ll hv8⟩ ?_
          refine yd hg10_5 3 ?_
          refine yd hg10_8 2 ?_
          refine ys 0 ⟨lb hv9⟩ ?_
          refine ys 0 ⟨li hv10⟩ ?_
          refine ys 3 ⟨ll hv11⟩ ?_
          refine ye [0,5,6,7,38] ?_
          exact hl83 _ (Option.some.inj h).symm
         ·refine yx hn 2 ?_
          refine ys 0 ⟨li hv7⟩ ?_
          refine ys 2 ⟨ll hv8⟩ ?_
          refine yd hg10_5 3 ?_
          refine yd hg10_8 8 ?_
          refine ye [0,5,6,7,38] ?_
          exact hl83 _ (Option.some.inj h).symm
     ·have h := cond_f hb71 h
      refine ht_exit ?_
      refine pt_x_then ?_
      refine pt_x_then ?_
      refine pt_x_in ?_
      refine pt_pick [1, 2] (by kernel_rfl) (es' := [(_,_),(_,_)]) rfl ?_
      exact hl66 _ (ho68 _ (Option.some.inj h).symm).symm
theorem ok_dots_Lines (mx : Int) (b : (List Int)) (r : (List (Option (List Int)))) (h : Sh.dots_Lines b = some r) : FnG Tryd.prog (GL mx) 14 [.fl .shr 1 (List.map (Value.int .u8) b)] (.hid (ownJ 22 1 (rowsO 5 (Value.int .u8) r))) := by
  unfold Sh.dots_Lines at h
  refine yG 14 func14 fun g0 hn hio => ?_
  refine yyy hn 1 [0,14] ?_
  refine yxx hn 0 ?_
  refine yS (.box 29 [.v (.slice none 0 0)]) 0 ⟨oA (op_alloc _ _ zr29)⟩ ?_
  refine yee [0,14,3] ?_
  refine ht_seq ?_
  refine ht_seq ?_
  obtain ⟨v1, hv1, h⟩ := bind_some h
  refine yx hn 1 ?_
  refine yk [] [5] ?_
  refine yt (6, .cloB 29 [.box 22 [.fl .shr 1 (List.map (Value.int .u8) v1)]]) 0 ⟨op_callS _ _ 22 _ _ rfl call22 rfl rfl (ok_dots_lines b _ hv1) rfl⟩ ?_
  refine yee [14,3,6] ?_
  refine ht_block ?_
  refine ht_pick [2, 0, 1] (by kernel_rfl) (es' := [(6, .cloB 29 [.box 22 [.fl .shr 1 (List.map (Value.int .u8) v1)]]), (14, .glob (GL mx)), (3, .box 29 [.v (.slice none 0 0)])]) rfl ?_
  refine ht_sub (fs := [(6, .cloB 29 [.box 22 [.fl .shr 1 (List.map (Value.int .u8) v1)]]), (14, .glob (GL mx)), (3, .box 29 [.hid (ownJ 22 1 (rowsO 5 (Value.int .u8) []))])]) (.same _ (.same _ (.box _ _ (subs_cons (sub_nil_oo 22 5 (Value.int .u8)) (subs_nil)) rfl .nil))) ?_
  refine ht_rangeF h 29 6 7 15 _ [14, 3] call29 (fun (s5 : (List (Option (List Int)))) => [(14, .glob (GL mx)), (3, .box 29 [.hid (ownJ 22 1 (rowsO 5 (Value.int .u8) s5))])]) (fun (() : Unit) => []) (fun l J Y hY t t' h => ok_dots_lines_1 mx l J Y hY v1 t t' h) hn rfl (fun _ => rfl) (fun _ => rfl) (fun _ => rfl) rfl rfl (fun _ => ⟨rfl, rfl⟩) rfl (glIn_look 14 rfl) ?_ ?_ ?_
  ·rintro kk g0 hn hio x s5 u h
   refine ht_es (es' := [(7, .fl .shr 1 (List.map (Value.int .u8) x)), (14, .glob (GL mx)), (3, .box 29 [.hid (ownJ 22 1 (rowsO 5 (Value.int .u8) s5))]), (14, .v (kk.tm.getD 14 undef)), (3, .v (kk.tm.getD 3 undef)), (15, .inv kk.ready)]) rfl ?_
   refine yy hn 1 [14,3,15,4,14,3] ?_
   refine pt_pick [0, 1, 3, 4, 5, 2] (by kernel_rfl) (es' := [(14, .glob (GL mx)), (3, .box 29 [.hid (ownJ 22 1 (rowsO 5 (Value.int .u8) s5))]), (4, .fl .shr 1 (List.map (Value.int .u8) x)), (14, .v (kk.tm.getD 14 undef)), (3, .v (kk.tm.getD 3 undef)), (15, .inv kk.ready)]) rfl ?_
   refine pt_begin (es := [(14, .glob (GL mx)), (3, .box 29 [.hid (ownJ 22 1 (rowsO 5 (Value.int .u8) s5))]), (4, .fl .shr 1 (List.map (Value.int .u8) x)), (14, .v (kk.tm.getD 14 undef)), (3, .v (kk.tm.getD 3 undef))]) 15 rfl ?_
   refine ht_block ?_
   obtain ⟨v2, hv2, h⟩ := bind_some h
   obtain ⟨v3, hv3, h⟩ := bind_some h
   refine wb [[3],[4]] ?_
   refine wN [9] ?_
   refine wS (.fl (.own 5) 1 (List.map (Value.int .u8) v2)) [] ⟨op_app_nil _ _ _ _ el22 rfl rfl (map_len _) hv2 (congrArg (List.map _) (app_nil_eq hv2))⟩ ?_
   refine wK [10] [] ?_
   refine wt [(11, .hid (ownJ 22 1 (rowsO 5 (Value.int .u8) [some v2])))] [] ⟨op_build1_own _ _ _ 1 (.slice none 0 0) _ (rowsO 5 (Value.int .u8) [some v2]) underlying29 sz22 zr22 rfl rfl rfl (by decide) (by decide) rfl⟩ ?_
   refine wK [3,11] [8] ?_
   refine wt [(3, .box 29 [.any]), (11, .any), (12, .hid (ownJ 22 1 (rowsO 5 (Value.int .u8) v3)))] [] ⟨op_app_own_cell _ 12 3 11 0 _ el29 rfl rfl (zl rfl) (rowsO_len _) (rowsO_len _) hv3 (rowsO_app (app_eq hv3)) (by decide) rfl rfl⟩ ?_
   refine wK [8,12,3] [] ?_
   refine wt [(3, .box 29 [.hid (ownJ 22 1 (rowsO 5 (Value.int .u8) v3))])] [] ⟨LOp.drop [_] (op_store_take _ _ _ _ _ _ _ _ sz29 rfl rfl rfl (zl rfl) rfl rfl)⟩ ?_
   refine we hn [14,3,15,14,3] ?_
   refine pt_inb ?_
   refine pt_pick [0, 1, 3, 4, 2] (by kernel_rfl) (es' := [(_,_),(_,_),(_,_),(_,_),(_,_)]) rfl ?_
   obtain rfl := Option.some.inj h
   exact pt_rnext 15 [14, 3] _ rfl rfl (by kernel_rfl)
  ·rintro D s5 h
   refine pt_inb ?_
   refine pt_then ?_
   refine yxx hn 1 ?_
   refine yk [3] [13] ?_
   refine ytt (3, .box 29 [.any]) (2, .hid (ownJ 22 1 (rowsO 5 (Value.int .u8) s5))) 0 ⟨op_assign_hid _ 2 3 0 rfl rfl (zl rfl) rfl (by decide) rfl⟩ ?_
   refine yee [14,2] ?_
   refine ht_ret ?_
   refine pt_pick [1] (by kernel_rfl) (es' := [(_,_)]) rfl ?_
   obtain rfl := Option.some.inj h
   exact pt_ret hio rfl (.tmp _ _ .nil) rfl rfl
  ·rintro D ⟨⟩ h
   cases h
theorem ok_wherryref11_end (b : (List Int)) (at_ : Int) (r : Int) (h : Sh.wherryref11_end b at_ = some r) : FnOK Tryd.prog 27 [.fl .shr 1 (List.map (Value.int .u8) b), .v (.int .i64 at_)] (.v (.int .i64 r)) := by
  unfold Sh.wherryref11_end at h
  refine yO 28 func27 fun g0 hn hio => ?_
  refine yyy hn 1 [0,1] ?_
  refine ht_seq ?_
  refine yyy hn 2 [0,5] ?_
  refine ht_loopS h (fun (s21 : Int) => [(0, .fl .shr 1 (List.map (Value.int .u8) b)), (5, .v (.int .i64 s21))]) (fun (() : Unit) => []) ?_ ?_
  ·rintro ⟨⟩ h
   refine pt_then ?_
   refine yyy hn 1 [4] ?_
   refine ht_ret ?_
   obtain rfl := Option.some.inj h
   exact pt_ret hio rfl (.tmp _ _ .nil) rfl rfl
  ·rintro u28 hl29 hr30 s21 rr33 h ho31
   refine ht_seq ?_
   refine ht_seq ?_
   obtain ⟨v1, hv1, h⟩ := bind_some h
   refine yx hn 1 ?_
   refine ys 3 ⟨lb hv1⟩ ?_
   refine yee [0,5,11] ?_
   refine ht_cond _ rfl (fun hb34 => ?_) (fun hb34 => ?_)
   ·have h := cond_t hb34 h
    refine ht_skip ?_
    refine pt_then (ht_seq ?_)
    refine ht_block ?_
    refine ht_seq ?_
    refine ht_joinS h (fun (s35 : Bool) => [(0, .fl .shr 1 (List.map (Value.int .u8) b)), (5, .v (.int .i64 s21)), (26, .v (.bool s35))]) ?_ ?_
    ·rintro s35 h
     refine pt_then ?_
     refine ht_cond _ rfl (fun hb39 => ?_) (fun hb39 => ?_)
     ·have h := cond_t hb39 h
      refine yyy hn 2 [4] ?_
      refine ht_ret ?_
      refine pt_r_in ?_
      refine pt_r_then ?_
      refine pt_r_then ?_
      refine pt_r_in ?_
      refine pt_r_then ?_
      have h := hr30 _ (ho31 _ (Option.some.inj h).symm).symm
      obtain rfl := Option.some.inj h
      exact pt_ret hio rfl (.tmp _ _ .nil) rfl rfl
     ·have h := cond_f hb39 h
      refine ht_skip ?_
      refine pt_inb ?_
      refine pt_then ?_
      obtain ⟨v13, hv13, h⟩ := bind_some h
      refine yx hn 1 ?_
      refine ys 0 ⟨lb hv13⟩ ?_
      refine yw [5] 1 ?_
      refine ye [0,5] ?_
      exact pt_next _ (Option.some.inj h).symm rfl
    ·intro u36 h hl37 hr38
     obtain ⟨v3, hv3, h⟩ := bind_some h
     obtain ⟨v4, hv4, h⟩ := bind_some h
     refine cond_some h (fun hg4_5 h => ?_) (fun hg4_5 h => ?_)
     ·obtain ⟨v5, hv5, h⟩ := bind_some h
      obtain ⟨v6, hv6, h⟩ := bind_some h
      obtain ⟨v7, hv7, h⟩ := bind_some h
      refine yx hn 2 ?_
      refine ys 0 ⟨li hv3⟩ ?_
      refine ys 2 ⟨ll hv4⟩ ?_
      refine yd hg4_5 2 ?_
      refine ys 0 ⟨lb hv5⟩ ?_
      refine ys 0 ⟨li hv6⟩ ?_
      refine ys 2 ⟨ll hv7⟩ ?_
      refine ye [0,5,26] ?_
      exact hl37 _ (Option.some.inj h).symm
     ·refine yx hn 2 ?_
      refine ys 0 ⟨li hv3⟩ ?_
      refine ys 2 ⟨ll hv4⟩ ?_
      refine yd hg4_5 7 ?_
      refine ye [0,5,26] ?_
      exact hl37 _ (Option.some.inj h).symm
   ·have h := cond_f hb34 h
    refine ht_exit ?_
    refine pt_x_then ?_
    refine pt_x_then ?_
    refine pt_x_in ?_
    refine pt_pick [] (by kernel_rfl) (es' := []) rfl ?_
    exact hl29 _ (ho31 _ (Option.some.inj h).symm).symm
theorem ok_wherryref11_Lines (b : (List Int)) (r : (List (List Int))) (h : Sh.wherryref11_Lines b = some r) : FnOK Tryd.prog 15 [.fl .shr 1 (List.map (Value.int .u8) b)] (.fr (.own 22) false 1 (List.flatten (List.map Row_int_u8.ienc r))) := by
  unfold Sh.wherryref11_Lines at h
  refine yO 24 func15 fun g0 hn hio => ?_
  refine yyy hn 1 [0] ?_
  refine yyy hn 1 [0,3] ?_
  refine yyy hn 1 [0,3,4] ?_
  refine ht_seq ?_
  refine ht_seq ?_
  obtain ⟨v1, hv1, h⟩ := bind_some h
  refine yx hn 1 ?_
  refine ys 1 ⟨lk call27 (ok_wherryref11_end _ _ _ hv1)⟩ ?_
  refine yee [0,3,4,5] ?_
  refine ht_sub (fs := [(0, .fl .shr 1 (List.map (Value.int .u8) b)), (3, .fr (.own 22) false 1 (List.flatten (List.map Row_int_u8.ienc []))), (4, .v (.int .i64 0)), (5, .v (.int .i64 v1))]) (.same _ (.sub _ (sub_nil_fr 22 false 1) rfl (.same _ (.same _ .nil)))) ?_
  refine ht_loopS h (fun ((s14, s15, s16) : (List (List Int)) × Int × Int) => [(0, .fl .shr 1 (List.map (Value.int .u8) b)), (3, .fr (.own 22) false 1 (List.flatten (List.map Row_int_u8.ienc s14))), (4, .v (.int .i64 s15)), (5, .v (.int .i64 s16))]) (fun (s18 : (List (List Int))) => [(3, .fr (.own 22) false 1 (List.flatten (List.map Row_int_u8.ienc s18)))]) ?_ ?_
  ·rintro s18 h
   refine pt_then ?_
   refine yxx hn 0 ?_
   refine ym 0 ?_
   refine ya 0 ?_
   refine yee [2] ?_
   refine ht_ret ?_
   obtain rfl := Option.some.inj h
   exact pt_ret hio rfl (.tmp _ _ .nil) rfl rfl
  ·rintro u19 hl20 hr21 ⟨s14, s15, s16⟩ rr24 h ho22
   refine ht_seq ?_
   refine yyy hn 2 [0,3,4,5,9] ?_
   refine ht_cond _ rfl (fun hb25 => ?_) (fun hb25 => ?_)
   ·have h := cond_t hb25 h
    refine ht_skip ?_
    refine pt_then (ht_seq ?_)
    refine ht_block ?_
    refine ht_seq ?_
    obtain ⟨v3, hv3, h⟩ := bind_some h
    obtain ⟨v4, hv4, h⟩ := bind_some h
    obtain ⟨v7, hv7, h⟩ := bind_some h
    refine yx hn 0 ?_
    refine ym 3 ?_
    refine yS (.fl .shr 1 (List.map (Value.int .u8) v3)) 0 ⟨op_sl _ _ _ s15 s16 _ underlying22 sz5 rfl rfl ⟨_, rfl⟩ ⟨_, rfl⟩ hv3⟩ ?_
    refine yS (.fl .ro 1 (List.map (Value.int .u8) v4)) 0 ⟨LOp.frzG 0 (op_call _ _ 10 _ _ rfl call10 rfl (ok_wherrykeep_Twin v3 _ hv4) rfl rfl) (zl rfl) rfl⟩ ?_
    refine yS (.fr (.own 22) false 1 (List.flatten (List.map Row_int_u8.ienc [v4]))) 0 ⟨op_build1_fr _ _ _ 1 (.slice none 0 0) false _ _ underlying29 sz22 zr22 rfl rfl (.cons (.ro _ _ rfl) (.nil)) rfl (by decide) (by decide)⟩ ?_
    refine yk [13] [19] ?_
    refine ytt (13, .any) (20, .fr (.own 22) false 1 (List.flatten (List.map Row_int_u8.ienc v7))) 0 ⟨op_app_fr _ _ _ _ _ el29 rfl rfl (gflat_len Row_int_u8.ilen _) (gflat_len Row_int_u8.ilen _) hv7 (gflat_app (app_eq hv7)) (by decide) (by decide)⟩ ?_
    refine ya 0 ?_
    refine yee [0,5,3] ?_
    obtain ⟨v8, hv8, h⟩ := bind_some h
    refine yx hn 1 ?_
    refine ys 1 ⟨lb hv8⟩ ?_
    refine ye [0,3,4] ?_
    refine pt_inb ?_
    refine pt_then ?_
    obtain ⟨v9, hv9, h⟩ := bind_some h
    refine yx hn 2 ?_
    refine ys 1 ⟨lk call27 (ok_wherryref11_end _ _ _ hv9)⟩ ?_
    refine ye [0,3,4,5] ?_
    exact pt_next _ (Option.some.inj h).symm rfl
   ·have h := cond_f hb25 h
    refine ht_exit ?_
    refine pt_x_then ?_
    refine pt_x_then ?_
    refine pt_x_in ?_
    refine pt_pick [1] (by kernel_rfl) (es' := [(_,_)]) rfl ?_
    exact hl20 _ (ho22 _ (Option.some.inj h).symm).symm
theorem ok_wherryref11_Stuff (b : (List Int)) (r : (List Int)) (h : Sh.wherryref11_Stuff b = some r) : FnOK Tryd.prog 19 [.fl .shr 1 (List.map (Value.int .u8) b)] (.fl (.own 5) 1 (List.map (Value.int .u8) r)) := by
  unfold Sh.wherryref11_Stuff at h
  refine yO 41 func19 fun g0 hn hio => ?_
  refine yyy hn 1 [0] ?_
  refine yyy hn 1 [0,3] ?_
  refine ht_seq ?_
  refine yyy hn 1 [0,3,4] ?_
  refine ht_sub (fs := [(0, .fl .shr 1 (List.map (Value.int .u8) b)), (3, .fl (.own 5) 1 (List.map (Value.int .u8) [])), (4, .v (.int .i64 0))]) (.same _ (.sub _ (sub_nil 5 1) rfl (.same _ .nil))) ?_
  refine ht_loopS h (fun ((s43, s44) : (List Int) × Int) => [(0, .fl .shr 1 (List.map (Value.int .u8) b)), (3, .fl (.own 5) 1 (List.map (Value.int .u8) s43)), (4, .v (.int .i64 s44))]) (fun (s60 : (List Int)) => [(3, .fl (.own 5) 1 (List.map (Value.int .u8) s60))]) ?_ ?_
  ·rintro s60 h
   refine pt_then (ht_seq ?_)
   obtain ⟨v82, hv82, h⟩ := bind_some h
   refine yx hn 0 ?_
   refine ym 0 ?_
   refine yS (.fl (.own 5) 1 (List.map (Value.int .u8) [46, 13, 10])) 0 ⟨op_buildSlice _ _ 1 (.int .u8 0) (List.map (Value.int .u8) [46, 13, 10]) [(0, .int .u8 46), (1, .int .u8 13), (2, .int .u8 10)] underlying22 sz5 zr5 (fun _ V w o a hv hes => by simp only [List.map_toArray, List.map_cons, List.map_nil]; try rfl) (litfill (by simp [Instr.fill, Value.cells]; rfl) (by simp [List.range, List.range.loop] <;> rfl)) (by simp [Value.oneCell']) rfl (by decide) (by decide) (by decide)⟩ ?_
   refine yp el22 hv82 0 ?_
   refine ya 0 ?_
   refine yee [2] ?_
   refine ht_ret ?_
   obtain rfl := Option.some.inj h
   exact pt_ret hio rfl (.tmp _ _ .nil) rfl rfl
  ·rintro u61 hl62 hr63 ⟨s43, s44⟩ rr66 h ho64
   refine ht_seq ?_
   refine yyy hn 4 [0,3,4,8] ?_
   refine ht_cond _ rfl (fun hb67 => ?_) (fun hb67 => ?_)
   ·have h := cond_t hb67 h
    refine ht_skip ?_
    refine pt_then (ht_seq ?_)
    refine ht_block ?_
    refine ht_seq ?_
    refine ht_joinS h (fun (s73 : (List Int)) => [(0, .fl .shr 1 (List.map (Value.int .u8) b)), (4, .v (.int .i64 s44)), (3, .fl (.own 5) 1 (List.map (Value.int .u8) s73))]) ?_ ?_
    ·rintro s73 h
     refine pt_then ?_
     obtain ⟨v22, hv22, h⟩ := bind_some h
     obtain ⟨v23, hv23, h⟩ := bind_some h
     obtain ⟨v24, hv24, h⟩ := bind_some h
     refine yx hn 0 ?_
     refine ym 2 ?_
     refine ys 0 ⟨li hv22⟩ ?_
     refine ys 0 ⟨ll hv23⟩ ?_
     refine yS (.fl (.own 5) 1 (List.map (Value.int .u8) [v23])) 0 ⟨op_buildSlice _ _ 1 (.int .u8 0) (List.map (Value.int .u8) [v23]) [(0, .int .u8 v23)] underlying22 sz5 zr5 (fun _ V w o a hv hes => by have e0 := rd_v hv hes (x := .tmp 35) rfl; simp only [List.map_toArray, List.map_cons, List.map_nil, e0]; try rfl) (litfill (by simp [Instr.fill, Value.cells]; rfl) (by simp [List.range, List.range.loop] <;> rfl)) (by simp [Value.oneCell']) rfl (by decide) (by decide) (by decide)⟩ ?_
     refine yp el22 hv24 0 ?_
     refine ya 0 ?_
     refine ye [0,4,3] ?_
     refine pt_inb ?_
     refine pt_then ?_
     obtain ⟨v25, hv25, h⟩ := bind_some h
     refine yx hn 1 ?_
     refine ys 0 ⟨lb hv25⟩ ?_
     refine yw [4] 1 ?_
     refine ye [0,3,4] ?_
     exact pt_next _ (Option.some.inj h).symm rfl
    ·intro u74 h hl75 hr76
     refine ht_seq ?_
     refine ht_joinS h (fun (s77 : Bool) => [(0, .fl .shr 1 (List.map (Value.int .u8) b)), (3, .fl (.own 5) 1 (List.map (Value.int .u8) s43)), (4, .v (.int .i64 s44)), (27, .v (.bool s77))]) ?_ ?_
     ·rintro s77 h
      refine pt_then ?_
      refine ht_cond _ rfl (fun hb81 => ?_) (fun hb81 => ?_)
      ·have h := cond_t hb81 h
       obtain ⟨v12, hv12, h⟩ := bind_some h
       refine yx hn 0 ?_
       refine ym 0 ?_
       refine yS (.fl (.own 5) 1 (List.map (Value.int .u8) [46])) 0 ⟨op_buildSlice _ _ 1 (.int .u8 0) (List.map (Value.int .u8) [46]) [(0, .int .u8 46)] underlying22 sz5 zr5 (fun _ V w o a hv hes => by simp only [List.map_toArray, List.map_cons, List.map_nil]; try rfl) (litfill (by simp [Instr.fill, Value.cells]; rfl) (by simp [List.range, List.range.loop] <;> rfl)) (by simp [Value.oneCell']) rfl (by decide) (by decide) (by decide)⟩ ?_
       refine yp el22 hv12 0 ?_
       refine ya 0 ?_
       refine ye [0,4,3] ?_
       exact hl75 _ (Option.some.inj h).symm
      ·have h := cond_f hb81 h
       refine ht_skip ?_
       refine pt_pick [0, 2, 1] (by kernel_rfl) (es' := [(_,_),(_,_),(_,_)]) rfl ?_
       exact hl75 _ (Option.some.inj h).symm
     ·intro u78 h hl79 hr80
      obtain ⟨v2, hv2, h⟩ := bind_some h
      obtain ⟨v3, hv3, h⟩ := bind_some h
      refine cond_some h (fun hg5_5 h => ?_) (fun hg5_5 h => ?_)
      ·refine cond_some h (fun hg5_8 h => ?_) (fun hg5_8 h => ?_)
       ·refine yx hn 2 ?_
        refine ys 0 ⟨li hv2⟩ ?_
        refine ys 2 ⟨ll hv3⟩ ?_
        refine yd hg5_5 3 ?_
        refine yd hg5_8 8 ?_
        refine ye [0,3,4,27] ?_
        exact hl79 _ (Option.some.inj h).symm
       ·obtain ⟨v4, hv4, h⟩ := bind_some h
        obtain ⟨v5, hv5, h⟩ := bind_some h
        obtain ⟨v6, hv6, h⟩ := bind_some h
        refine yx hn 2 ?_
        refine ys 0 ⟨li hv2⟩ ?_
        refine ys 2 ⟨ll hv3⟩ ?_
        refine yd hg5_5 3 ?_
        refine yd hg5_8 2 ?_
        refine ys 0 ⟨lb hv4⟩ ?_
        refine ys 0 ⟨li hv5⟩ ?_
        refine ys 3 ⟨ll hv6⟩ ?_
        refine ye [0,3,4,27] ?_
        exact hl79 _ (Option.some.inj h).symm
      ·refine yx hn 2 ?_
       refine ys 0 ⟨li hv2⟩ ?_
       refine ys 2 ⟨ll hv3⟩ ?_
       refine yd hg5_5 11 ?_
       refine ye [0,3,4,27] ?_
       exact hl79 _ (Option.some.inj h).symm
   ·have h := cond_f hb67 h
    refine ht_exit ?_
    refine pt_x_then ?_
    refine pt_x_then ?_
    refine pt_x_in ?_
    refine pt_pick [1] (by kernel_rfl) (es' := [(_,_)]) rfl ?_
    exact hl62 _ (ho64 _ (Option.some.inj h).symm).symm
theorem ok_wherrykeep_Bytes (a : (List Int)) (b : (List Int)) (r : Bool) (h : Sh.wherrykeep_Bytes a b = some r) : FnOK Tryd.prog 18 [.fl .shr 1 (List.map (Value.int .u8) a), .fl .shr 1 (List.map (Value.int .u8) b)] (.v (.bool r)) := by
  unfold Sh.wherrykeep_Bytes at h
  refine yO 26 func18 fun g0 hn hio => ?_
  refine yyy hn 1 [0,1] ?_
  refine ht_seq ?_
  refine yyy hn 5 [0,1,10] ?_
  refine ht_cond _ rfl (fun hb1 => ?_) (fun hb1 => ?_)
  ·have h := cond_t hb1 h
   refine yyy hn 1 [4] ?_
   refine ht_ret ?_
   refine pt_r_then ?_
   obtain rfl := Option.some.inj h
   exact pt_ret hio rfl (.tmp _ _ .nil) rfl rfl
  ·have h := cond_f hb1 h
   refine ht_skip ?_
   refine pt_then (ht_seq ?_)
   refine yyy hn 1 [0,1,5] ?_
   refine ht_loopS h (fun (s12 : Int) => [(0, .fl .shr 1 (List.map (Value.int .u8) a)), (1, .fl .shr 1 (List.map (Value.int .u8) b)), (5, .v (.int .i64 s12))]) (fun (() : Unit) => []) ?_ ?_
   ·rintro ⟨⟩ h
    refine pt_then ?_
    refine yyy hn 1 [4] ?_
    refine ht_ret ?_
    obtain rfl := Option.some.inj h
    exact pt_ret hio rfl (.tmp _ _ .nil) rfl rfl
   ·rintro u15 hl16 hr17 s12 rr20 h ho18
    refine ht_seq ?_
    refine yyy hn 4 [0,1,5,14] ?_
    refine ht_cond _ rfl (fun hb21 => ?_) (fun hb21 => ?_)
    ·have h := cond_t hb21 h
     refine ht_skip ?_
     refine pt_then (ht_seq ?_)
     refine ht_block ?_
     refine ht_seq ?_
     obtain ⟨v3, hv3, h⟩ := bind_some h
     obtain ⟨v4, hv4, h⟩ := bind_some h
     obtain ⟨v5, hv5, h⟩ := bind_some h
     obtain ⟨v6, hv6, h⟩ := bind_some h
     refine wb [[0],[5]] ?_
     refine wN [17,18] ?_
     refine wo [] ⟨li hv3⟩ ?_
     refine wN [19,17] ?_
     refine wo [[1],[5]] ⟨ll hv4⟩ ?_
     refine wN [21,22] ?_
     refine wo [] ⟨li hv5⟩ ?_
     refine wN [23,21] ?_
     refine wo [[20,24]] ⟨ll hv6⟩ ?_
     refine wee hn [0,1,5,25] ?_
     refine ht_cond _ rfl (fun hb22 => ?_) (fun hb22 => ?_)
     ·have h := cond_t hb22 h
      refine yyy hn 1 [4] ?_
      refine ht_ret ?_
      refine pt_r_in ?_
      refine pt_r_then ?_
      refine pt_r_then ?_
      refine pt_r_in ?_
      refine pt_r_then ?_
      have h := hr17 _ (ho18 _ (Option.some.inj h).symm).symm
      obtain rfl := Option.some.inj h
      exact pt_ret hio rfl (.tmp _ _ .nil) rfl rfl
     ·have h := cond_f hb22 h
      refine ht_skip ?_
      refine pt_inb ?_
      refine pt_then ?_
      obtain ⟨v8, hv8, h⟩ := bind_some h
      refine yx hn 1 ?_
      refine ys 0 ⟨lb hv8⟩ ?_
      refine yw [5] 1 ?_
      refine ye [0,1,5] ?_
      exact pt_next _ (Option.some.inj h).symm rfl
    ·have h := cond_f hb21 h
     refine ht_exit ?_
     refine pt_x_then ?_
     refine pt_x_then ?_
     refine pt_x_in ?_
     refine pt_pick [] (by kernel_rfl) (es' := []) rfl ?_
     exact hl16 _ (ho18 _ (Option.some.inj h).symm).symm
theorem ok_wherrykeep_Over (b : (List Int)) (r : Unit) (h : Sh.wherrykeep_Over b = some r) : FnE Tryd.prog 20 [.fl (.own 5) 1 (List.map (Value.int .u8) b)] (.tup []) := by
  unfold Sh.wherrykeep_Over at h
  refine yE 17 func20 fun g0 hn hio => ?_
  refine yyy hn 1 [0,2] ?_
  refine ht_loopS h (fun ((s11, s12) : (List Int) × Int) => [(0, .fl (.own 5) 1 (List.map (Value.int .u8) s11)), (2, .v (.int .i64 s12))]) (fun (() : Unit) => []) ?_ ?_
  ·rintro ⟨⟩ h
   obtain rfl := Option.some.inj h
   exact pt_endE hio rfl .nil rfl rfl
  ·rintro u14 hl15 hr16 ⟨s11, s12⟩ rr19 h ho17
   refine ht_seq ?_
   refine yyy hn 4 [0,2,6] ?_
   refine ht_cond _ rfl (fun hb20 => ?_) (fun hb20 => ?_)
   ·have h := cond_t hb20 h
    refine ht_skip ?_
    refine pt_then (ht_seq ?_)
    refine ht_block ?_
    obtain ⟨v2, hv2, h⟩ := bind_some h
    obtain ⟨v3, hv3, h⟩ := bind_some h
    obtain ⟨v4, hv4, h⟩ := bind_some h
    obtain ⟨v5, hv5, h⟩ := bind_some h
    obtain ⟨v6, hv6, h⟩ := bind_some h
    refine yx hn 4 ?_
    refine ys 0 ⟨li hv2⟩ ?_
    refine ys 0 ⟨ll hv3⟩ ?_
    refine ys 0 ⟨lb hv4⟩ ?_
    refine ys 0 ⟨li hv5⟩ ?_
    refine yk [0] [16,15] ?_
    refine yt (0, .fl (.own 5) 1 (List.map (Value.int .u8) v6)) 0 ⟨op_store_e _ _ _ _ _ _ _ _ sz5 rfl rfl rfl (by decide) (map_lt (ix_ok hv5).2) ((map_set (f := Value.int .u8) _ (ix_ok hv5).2).trans (congrArg (List.map _) (Option.some.inj hv6)))⟩ ?_
    refine ye [0,2] ?_
    refine pt_inb ?_
    refine pt_then ?_
    obtain ⟨v7, hv7, h⟩ := bind_some h
    refine yx hn 1 ?_
    refine ys 0 ⟨lb hv7⟩ ?_
    refine yw [2] 1 ?_
    refine ye [0,2] ?_
    exact pt_next _ (Option.some.inj h).symm rfl
   ·have h := cond_f hb20 h
    refine ht_exit ?_
    refine pt_x_then ?_
    refine pt_x_then ?_
    refine pt_x_in ?_
    refine pt_pick [] (by kernel_rfl) (es' := []) rfl ?_
    exact hl15 _ (ho17 _ (Option.some.inj h).symm).symm
theorem ok_wherrylaw14_wakes (mx : Int) (r : Bool) (h : Sh.wherrylaw14_wakes  = some r) : FnG Tryd.prog (GL mx) 21 [] (.v (.bool r)) := by
  unfold Sh.wherrylaw14_wakes at h
  refine yG 53 func21 fun g0 hn hio => ?_
  refine yyy hn 1 [53] ?_
  refine yxx hn 0 ?_
  refine yS (.fl (.own 5) 1 (List.map (Value.int .u8) [46, 13, 10])) 0 ⟨op_buildSlice _ _ 1 (.int .u8 0) (List.map (Value.int .u8) [46, 13, 10]) [(0, .int .u8 46), (1, .int .u8 13), (2, .int .u8 10)] underlying22 sz5 zr5 (fun _ V w o a hv hes => by simp only [List.map_toArray, List.map_cons, List.map_nil]; try rfl) (litfill (by simp [Instr.fill, Value.cells]; rfl) (by simp [List.range, List.range.loop] <;> rfl)) (by simp [Value.oneCell']) rfl (by decide) (by decide) (by decide)⟩ ?_
  refine yk [7] [] ?_
  refine yt (8, .fl .ro 1 (List.map (Value.int .u8) [46, 13, 10])) 1 ⟨op_conv_mark _ _ _ underlying22 underlying5 (by intro h; cases h)⟩ ?_
  refine yee [53,1] ?_
  refine ht_seq ?_
  obtain ⟨v1, hv1, h⟩ := bind_some h
  refine yx hn 1 ?_
  refine ys 0 ⟨lg call11 (ok_dots_Stuff _ _ _ hv1) 53⟩ ?_
  refine ym 0 ?_
  refine yx_ 1 ?_
  refine ya 1 ?_
  refine yee [53,1,2,3] ?_
  refine ht_seq ?_
  obtain ⟨v2, hv2, h⟩ := bind_some h
  refine yx hn 1 ?_
  refine ys 0 ⟨lg call12 (ok_dots_Strip _ _ _ hv2) 53⟩ ?_
  refine ym 0 ?_
  refine yx_ 2 ?_
  refine ya 2 ?_
  refine yee [53,1,2,3,4,5,6] ?_
  refine ht_seq ?_
  refine ht_joinS h (fun (s7 : Bool) => [(53, .glob (GL mx)), (0, .v (.bool s7))]) ?_ ?_
  ·rintro s7 h
   refine pt_then (ht_ret ?_)
   refine pt_pick [1] (by kernel_rfl) (es' := [(_,_)]) rfl ?_
   obtain rfl := Option.some.inj h
   exact pt_ret hio rfl (.tmp _ _ .nil) rfl rfl
  ·intro u8 h hl9 hr10
   refine cond_some h (fun hg4_2 h => ?_) (fun hg4_2 h => ?_)
   ·refine cond_some h (fun hg4_6 h => ?_) (fun hg4_6 h => ?_)
    ·obtain ⟨v3, hv3, h⟩ := bind_some h
     refine cond_some h (fun hg4_11 h => ?_) (fun hg4_11 h => ?_)
     ·obtain ⟨v4, hv4, h⟩ := bind_some h
      refine cond_some h (fun hg4_16 h => ?_) (fun hg4_16 h => ?_)
      ·refine cond_some h (fun hg4_20 h => ?_) (fun hg4_20 h => ?_)
       ·obtain ⟨v5, hv5, h⟩ := bind_some h
        refine cond_some h (fun hg4_26 h => ?_) (fun hg4_26 h => ?_)
        ·obtain ⟨v6, hv6, h⟩ := bind_some h
         refine yx hn 3 ?_
         refine yd hg4_2 4 ?_
         refine yd hg4_6 0 ?_
         refine ym 0 ?_
         refine ys 3 ⟨lS hv3⟩ ?_
         refine yd hg4_11 0 ?_
         refine ym 1 ?_
         refine ys 2 ⟨lk call18 (ok_wherrykeep_Bytes _ _ _ hv4)⟩ ?_
         refine yd hg4_16 4 ?_
         refine yd hg4_20 0 ?_
         refine yS (.fl (.own 5) 1 (List.map (Value.int .u8) [97, 10])) 0 ⟨op_buildSlice _ _ 1 (.int .u8 0) (List.map (Value.int .u8) [97, 10]) [(0, .int .u8 97), (1, .int .u8 10)] underlying22 sz5 zr5 (fun _ V w o a hv hes => by simp only [List.map_toArray, List.map_cons, List.map_nil]; try rfl) (litfill (by simp [Instr.fill, Value.cells]; rfl) (by simp [List.range, List.range.loop] <;> rfl)) (by simp [Value.oneCell']) rfl (by decide) (by decide) (by decide)⟩ ?_
         refine yk [41] [] ?_
         refine yt (42, .fl .ro 1 (List.map (Value.int .u8) [97, 10])) 0 ⟨op_conv_mark _ _ _ underlying22 underlying5 (by intro h; cases h)⟩ ?_
         refine ys 3 ⟨lg call17 (ok_dots_Check _ _ _ hv5) 53⟩ ?_
         refine yd hg4_26 0 ?_
         refine yS (.fl (.own 5) 1 (List.map (Value.int .u8) [97, 13, 10, 98, 13, 10, 99])) 0 ⟨op_buildSlice _ _ 1 (.int .u8 0) (List.map (Value.int .u8) [97, 13, 10, 98, 13, 10, 99]) [(0, .int .u8 97), (1, .int .u8 13), (2, .int .u8 10), (3, .int .u8 98), (4, .int .u8 13), (5, .int .u8 10), (6, .int .u8 99)] underlying22 sz5 zr5 (fun _ V w o a hv hes => by simp only [List.map_toArray, List.map_cons, List.map_nil]; try rfl) (litfill (by simp [Instr.fill, Value.cells]; rfl) (by simp [List.range, List.range.loop] <;> rfl)) (by simp [Value.oneCell']) rfl (by decide) (by decide) (by decide)⟩ ?_
         refine yk [47] [] ?_
         refine yt (48, .fl .ro 1 (List.map (Value.int .u8) [97, 13, 10, 98, 13, 10, 99])) 0 ⟨op_conv_mark _ _ _ underlying22 underlying5 (by intro h; cases h)⟩ ?_
         refine yS (.hid (ownJ 22 1 (rowsO 5 (Value.int .u8) v6))) 0 ⟨op_callOG _ _ 53 14 _ rfl call14 rfl rfl (fun _ h => h) (ok_dots_Lines mx [97, 13, 10, 98, 13, 10, 99] _ hv6) (oo_closed _) (oo_noShr _)⟩ ?_
         refine yS (.v (.int .i64 (v6.length : Int))) 3 ⟨op_len_own _ _ _ underlying29 rfl (rowsO_len _) (by decide)⟩ ?_
         refine ye [53,0] ?_
         exact hl9 _ (Option.some.inj h).symm
        ·refine yx hn 3 ?_
         refine yd hg4_2 4 ?_
         refine yd hg4_6 0 ?_
         refine ym 0 ?_
         refine ys 3 ⟨lS hv3⟩ ?_
         refine yd hg4_11 0 ?_
         refine ym 1 ?_
         refine ys 2 ⟨lk call18 (ok_wherrykeep_Bytes _ _ _ hv4)⟩ ?_
         refine yd hg4_16 4 ?_
         refine yd hg4_20 0 ?_
         refine yS (.fl (.own 5) 1 (List.map (Value.int .u8) [97, 10])) 0 ⟨op_buildSlice _ _ 1 (.int .u8 0) (List.map (Value.int .u8) [97, 10]) [(0, .int .u8 97), (1, .int .u8 10)] underlying22 sz5 zr5 (fun _ V w o a hv hes => by simp only [List.map_toArray, List.map_cons, List.map_nil]; try rfl) (litfill (by simp [Instr.fill, Value.cells]; rfl) (by simp [List.range, List.range.loop] <;> rfl)) (by simp [Value.oneCell']) rfl (by decide) (by decide) (by decide)⟩ ?_
         refine yk [41] [] ?_
         refine yt (42, .fl .ro 1 (List.map (Value.int .u8) [97, 10])) 0 ⟨op_conv_mark _ _ _ underlying22 underlying5 (by intro h; cases h)⟩ ?_
         refine ys 3 ⟨lg call17 (ok_dots_Check _ _ _ hv5) 53⟩ ?_
         refine yd hg4_26 7 ?_
         refine ye [53,0] ?_
         exact hl9 _ (Option.some.inj h).symm
       ·refine yx hn 3 ?_
        refine yd hg4_2 4 ?_
        refine yd hg4_6 0 ?_
        refine ym 0 ?_
        refine ys 3 ⟨lS hv3⟩ ?_
        refine yd hg4_11 0 ?_
        refine ym 1 ?_
        refine ys 2 ⟨lk call18 (ok_wherrykeep_Bytes _ _ _ hv4)⟩ ?_
        refine yd hg4_16 4 ?_
        refine yd hg4_20 13 ?_
        refine ye [53,0] ?_
        exact hl9 _ (Option.some.inj h).symm
      ·refine yx hn 3 ?_
       refine yd hg4_2 4 ?_
       refine yd hg4_6 0 ?_
       refine ym 0 ?_
       refine ys 3 ⟨lS hv3⟩ ?_
       refine yd hg4_11 0 ?_
       refine ym 1 ?_
       refine ys 2 ⟨lk call18 (ok_wherrykeep_Bytes _ _ _ hv4)⟩ ?_
       refine yd hg4_16 17 ?_
       refine ye [53,0] ?_
       exact hl9 _ (Option.some.inj h).symm
     ·refine yx hn 3 ?_
      refine yd hg4_2 4 ?_
      refine yd hg4_6 0 ?_
      refine ym 0 ?_
      refine ys 3 ⟨lS hv3⟩ ?_
      refine yd hg4_11 22 ?_
      refine ye [53,0] ?_
      exact hl9 _ (Option.some.inj h).symm
    ·refine yx hn 3 ?_
     refine yd hg4_2 4 ?_
     refine yd hg4_6 27 ?_
     refine ye [53,0] ?_
     exact hl9 _ (Option.some.inj h).symm
   ·refine yx hn 3 ?_
    refine yd hg4_2 31 ?_
    refine ye [53,0] ?_
    exact hl9 _ (Option.some.inj h).symm
end Go.Proofs.YtgonanjdmdlkjaaDoor
