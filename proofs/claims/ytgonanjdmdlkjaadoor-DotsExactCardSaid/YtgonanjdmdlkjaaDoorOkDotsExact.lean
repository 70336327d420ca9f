/-
  The model's runs are what is told in Lean.
-/
import Derived.Test.YtgonanjdmdlkjaaDoorProg
import Derived.KernelRfl
import Derived.Test.YtgonanjdmdlkjaaDoorShelf
import Derived.Test.YtgonanjdmdlkjaaDoorIdx
import Derived.Test.YtgonanjdmdlkjaaDoorBD
import Derived.Test.YtgonanjdmdlkjaaDoorC1
import Derived.Test.YtgonanjdmdlkjaaDoorOkc2
set_option linter.unusedVariables false
set_option linter.unusedSimpArgs false
set_option maxHeartbeats 1000000
namespace Go.Proofs.YtgonanjdmdlkjaaDoor
open Go.Abs Go.Abs.Sh Tryd

theorem ok_wherrylaw14_DotsExact (mx : Int) (b : (List Int)) (r : Bool) (h : Sh.wherrylaw14_DotsExact b = some r) : FnG Tryd.prog (GL mx) 3 [.fl .shr 1 (List.map (Value.int .u8) b)] (.v (.bool r)) := by
  unfold Sh.wherrylaw14_DotsExact at h
  refine yG 135 func3 fun g0 hn hio => ?_
  refine yyy hn 1 [0,135] ?_
  refine ht_seq ?_
  refine yyy hn 3 [0,135,18] ?_
  refine ht_cond _ rfl (fun hb1 => ?_) (fun hb1 => ?_)
  ·have h := cond_t hb1 h
   refine yyy hn 1 [135,2] ?_
   refine ht_ret ?_
   refine pt_pick [1] (by kernel_rfl) (es' := [(_,_)]) rfl ?_
   refine pt_r_then ?_
   obtain rfl := Option.some.inj h
   exact pt_ret hio rfl (.tmp _ _ .nil) rfl rfl
  ·have h := cond_f hb1 h
   refine ht_skip ?_
   refine pt_then (ht_seq ?_)
   obtain ⟨v2, hv2, h⟩ := bind_some h
   refine yx hn 1 ?_
   refine ys 0 ⟨lk call10 (ok_wherrykeep_Twin _ _ hv2)⟩ ?_
   refine ya 0 ?_
   refine yee [0,135,3] ?_
   refine ht_seq ?_
   obtain ⟨v3, hv3, h⟩ := bind_some h
   refine yx hn 1 ?_
   refine ys 0 ⟨lg call11 (ok_dots_Stuff _ _ _ hv3) 135⟩ ?_
   refine ym 0 ?_
   refine yx_ 1 ?_
   refine ya 1 ?_
   refine yee [0,135,3,4,5] ?_
   refine ht_seq ?_
   obtain ⟨v4, hv4, h⟩ := bind_some h
   refine yx hn 1 ?_
   refine ys 0 ⟨lg call12 (ok_dots_Strip _ _ _ hv4) 135⟩ ?_
   refine ym 0 ?_
   refine yx_ 2 ?_
   refine ya 2 ?_
   refine yee [0,135,3,4,5,6,7,8] ?_
   refine ht_seq ?_
   obtain ⟨v5, hv5, h⟩ := bind_some h
   refine yx hn 1 ?_
   refine ys 0 ⟨lk call13 (ok_wherryref11_Strip _ _ hv5)⟩ ?_
   refine ym 0 ?_
   refine yx_ 2 ?_
   refine ya 2 ?_
   refine yee [0,135,3,4,5,6,7,8,9,10,11] ?_
   refine ht_seq ?_
   obtain ⟨v6, hv6, h⟩ := bind_some h
   obtain ⟨v7, hv7, h⟩ := bind_some h
   refine yx hn 1 ?_
   refine yS (.hid (ownJ 22 1 (rowsO 5 (Value.int .u8) v6))) 1 ⟨op_callOG _ _ 135 14 _ rfl call14 rfl rfl (fun _ h => h) (ok_dots_Lines mx v2 _ hv6) (oo_closed _) (oo_noShr _)⟩ ?_
   refine ys 0 ⟨lk call15 (ok_wherryref11_Lines _ _ hv7)⟩ ?_
   refine ya 0 ?_
   refine ya 0 ?_
   refine yee [0,135,3,4,5,6,7,8,9,10,11,12,13] ?_
   refine ht_seq ?_
   obtain ⟨v8, hv8, h⟩ := bind_some h
   refine yx hn 1 ?_
   refine ys 1 ⟨lk call16 (ok_wherryref11_Body _ _ hv8)⟩ ?_
   refine yee [0,135,3,4,5,6,7,8,9,10,11,12,13,14] ?_
   refine ht_seq ?_
   refine ht_seq ?_
   refine ht_joinS h (fun (s20 : Bool) => [(0, .fl .shr 1 (List.map (Value.int .u8) b)), (135, .glob (GL mx)), (3, .fl (.own 5) 1 (List.map (Value.int .u8) v2)), (4, .fl (.own 5) 1 (List.map (Value.int .u8) v3.1)), (6, .fl (.own 5) 1 (List.map (Value.int .u8) v4.1)), (12, .hid (ownJ 22 1 (rowsO 5 (Value.int .u8) v6))), (13, .fr (.own 22) false 1 (List.flatten (List.map Row_int_u8.ienc v7))), (103, .v (.bool s20))]) ?_ ?_
   ·rintro s20 h
    refine pt_then ?_
    refine ht_cond _ rfl (fun hb24 => ?_) (fun hb24 => ?_)
    ·have h := cond_t hb24 h
     refine yyy hn 1 [135,2] ?_
     refine ht_ret ?_
     refine pt_pick [1] (by kernel_rfl) (es' := [(_,_)]) rfl ?_
     refine pt_r_then ?_
     obtain rfl := Option.some.inj h
     exact pt_ret hio rfl (.tmp _ _ .nil) rfl rfl
    ·have h := cond_f hb24 h
     refine ht_skip ?_
     refine pt_then (ht_seq ?_)
     refine yyy hn 1 [0,135,3,4,6,12,13,15] ?_
     refine ht_loopS h (fun ((s40, s41) : (List (Option (List Int))) × Int) => [(0, .fl .shr 1 (List.map (Value.int .u8) b)), (135, .glob (GL mx)), (3, .fl (.own 5) 1 (List.map (Value.int .u8) v2)), (4, .fl (.own 5) 1 (List.map (Value.int .u8) v3.1)), (6, .fl (.own 5) 1 (List.map (Value.int .u8) v4.1)), (12, .hid (ownJ 22 1 (rowsO 5 (Value.int .u8) s40))), (13, .fr (.own 22) false 1 (List.flatten (List.map Row_int_u8.ienc v7))), (15, .v (.int .i64 s41))]) (fun (() : Unit) => [(0, .fl .shr 1 (List.map (Value.int .u8) b)), (135, .glob (GL mx)), (3, .fl (.own 5) 1 (List.map (Value.int .u8) v2)), (4, .fl (.own 5) 1 (List.map (Value.int .u8) v3.1)), (6, .fl (.own 5) 1 (List.map (Value.int .u8) v4.1))]) ?_ ?_
     ·rintro ⟨⟩ h
      refine pt_then (ht_seq ?_)
      obtain ⟨v52, hv52, h⟩ := bind_some h
      refine yx hn 0 ?_
      refine ym 0 ?_
      refine yk [125] [] ?_
      refine ytt (125, .any) (126, .tup []) 0 ⟨op_callE _ _ 125 20 _ _ rfl call20 rfl rfl (ok_wherrykeep_Over v4.1 _ hv52) rfl rfl rfl⟩ ?_
      refine yee [0,135,3,4] ?_
      refine ht_seq ?_
      obtain ⟨v53, hv53, h⟩ := bind_some h
      refine yx hn 0 ?_
      refine ym 0 ?_
      refine yk [127] [] ?_
      refine ytt (127, .any) (128, .tup []) 0 ⟨op_callE _ _ 127 20 _ _ rfl call20 rfl rfl (ok_wherrykeep_Over v3.1 _ hv53) rfl rfl rfl⟩ ?_
      refine yee [0,135,3] ?_
      refine ht_seq ?_
      refine ht_joinS h (fun (s56 : Bool) => [(135, .glob (GL mx)), (2, .v (.bool s56))]) ?_ ?_
      ·rintro s56 h
       refine pt_then (ht_ret ?_)
       refine pt_pick [1] (by kernel_rfl) (es' := [(_,_)]) rfl ?_
       obtain rfl := Option.some.inj h
       exact pt_ret hio rfl (.tmp _ _ .nil) rfl rfl
      ·intro u57 h hl58 hr59
       obtain ⟨v54, hv54, h⟩ := bind_some h
       refine cond_some h (fun hg19_3 h => ?_) (fun hg19_3 h => ?_)
       ·obtain ⟨v55, hv55, h⟩ := bind_some h
        refine yx hn 0 ?_
        refine ym 1 ?_
        refine ys 1 ⟨lk call18 (ok_wherrykeep_Bytes _ _ _ hv54)⟩ ?_
        refine yd hg19_3 0 ?_
        refine ys 2 ⟨lg call21 (ok_wherrylaw14_wakes _ _ hv55) 135⟩ ?_
        refine ye [135,2] ?_
        exact hl58 _ (Option.some.inj h).symm
       ·refine yx hn 0 ?_
        refine ym 1 ?_
        refine ys 1 ⟨lk call18 (ok_wherrykeep_Bytes _ _ _ hv54)⟩ ?_
        refine yd hg19_3 3 ?_
        refine ye [135,2] ?_
        exact hl58 _ (Option.some.inj h).symm
     ·rintro u44 hl45 hr46 ⟨s40, s41⟩ rr49 h ho47
      refine ht_seq ?_
      refine yxx hn 1 ?_
      refine yS (.same (.slot 12)) 0 ⟨op_move_name _ _ _ rfl⟩ ?_
      refine yS (.v (.int .i64 (s40.length : Int))) 1 ⟨op_len_own _ _ _ underlying29 rfl (rowsO_len _) (by decide)⟩ ?_
      refine yee [0,135,3,4,6,12,13,15,107] ?_
      refine ht_cond _ rfl (fun hb50 => ?_) (fun hb50 => ?_)
      ·have h := cond_t hb50 h
       refine ht_skip ?_
       refine pt_then (ht_seq ?_)
       refine ht_block ?_
       refine ht_seq ?_
       refine ht_seq ?_
       obtain ⟨v26, hv26, h⟩ := bind_some h
       obtain ⟨v27, hv27, h⟩ := bind_some h
       obtain ⟨v28, hv28, h⟩ := bind_some h
       obtain ⟨v29, hv29, h⟩ := bind_some h
       obtain ⟨v30, hv30, h⟩ := bind_some h
       refine ht_pick [5, 0, 1, 2, 3, 4, 6, 7, 8] rfl rfl ?_
       refine ht_openO 144 fun ov14 oh14 => ?_
       refine wb [[12],[15]] ?_
       refine wN [110,12,111] ?_
       refine wS (.eref (.slot 12) (v26 * 1)) [] ⟨op_ix _ _ _ _ _ _ _ _ underlying29 sz22 (by decide) rfl rfl rfl (ix_ok hv26).1 (oo_lt oh14 (ix_ok hv26).2) rfl⟩ ?_
       refine wN [112,12] ?_
       refine wS (.v (List.getD ov14 v26 undef)) [[13],[15]] ⟨op_load_e _ _ _ _ _ _ underlying22 rfl rfl rfl (oo_get oh14 (elt_get hv27))⟩ ?_
       refine wN [114,13,115] ?_
       refine wo [] ⟨lI hv28⟩ ?_
       refine wN [116,13] ?_
       refine wS (.fl .ro 1 (List.map (Value.int .u8) v29)) [] ⟨op_load_fr _ _ _ _ _ _ _ underlying22 rfl rfl rfl (gflat_cell0 Row_int_u8.ilen hv29 rfl) (.fl _ _ rfl)⟩ ?_
       refine wN [144,113,117] ?_
       refine wS (.v (.bool v30)) [[118]] ⟨op_callElR _ _ 144 v26 18 (pre := []) (x := .tmp 113) (post := [.tmp 117]) _ _ rfl call18 rfl rfl (oo_get1 oh14 (elt_get hv27)) (oo_cell (elt_get hv27)) (by repeat first | exact List.Mem.head _ | apply List.Mem.tail) rfl (ok_wherrykeep_Bytes v27 v29 _ hv30) rfl rfl⟩ ?_
       refine we hn [12,144,0,135,3,4,6,13,15,119] ?_
       refine pt_closeO ?_
       refine pt_then ?_
       refine ht_cond _ rfl (fun hb51 => ?_) (fun hb51 => ?_)
       ·have h := cond_t hb51 h
        refine yyy hn 1 [135,2] ?_
        refine ht_ret ?_
        refine pt_pick [1] (by kernel_rfl) (es' := [(_,_)]) rfl ?_
        refine pt_r_then ?_
        refine pt_r_in ?_
        refine pt_r_then ?_
        refine pt_r_then ?_
        refine pt_r_in ?_
        refine pt_r_then ?_
        have h := hr46 _ (ho47 _ (Option.some.inj h).symm).symm
        obtain rfl := Option.some.inj h
        exact pt_ret hio rfl (.tmp _ _ .nil) rfl rfl
       ·have h := cond_f hb51 h
        refine ht_skip ?_
        refine pt_then ?_
        obtain ⟨v32, hv32, h⟩ := bind_some h
        obtain ⟨v33, hv33, h⟩ := bind_some h
        obtain ⟨v34, hv34, h⟩ := bind_some h
        refine ht_pick [0, 1, 2, 3, 4, 5, 6, 7, 8] rfl rfl ?_
        refine ht_openO 144 fun ov16 oh16 => ?_
        refine yx hn 2 ?_
        refine yS (.eref (.slot 12) (v32 * 1)) 0 ⟨op_ix _ _ _ _ _ _ _ _ underlying29 sz22 (by decide) rfl rfl rfl (ix_ok hv32).1 (oo_lt oh16 (ix_ok hv32).2) rfl⟩ ?_
        refine yS (.v (List.getD ov16 v32 undef)) 0 ⟨op_load_e _ _ _ _ _ _ underlying22 rfl rfl rfl (oo_get oh16 (elt_get hv33))⟩ ?_
        refine yk [144] [123] ?_
        refine ytt (144, .inv (ownI (rowsO 5 (Value.int .u8) (s40.set v32 none)) ov16)) (124, .tup []) 0 ⟨op_callElE _ _ 144 v32 20 (x := .tmp 123) (ys := []) _ _ rfl call20 rfl rfl (oo_get1 oh16 (elt_get hv33)) (oo_cell (elt_get hv33)) oo_set rfl (ok_wherrykeep_Over v33 _ hv34) rfl rfl rfl⟩ ?_
        refine ye [12,144,0,135,3,4,6,13,15] ?_
        refine pt_closeO ?_
        refine pt_inb ?_
        refine pt_then ?_
        obtain ⟨v35, hv35, h⟩ := bind_some h
        refine yx hn 1 ?_
        refine ys 0 ⟨lb hv35⟩ ?_
        refine yw [15] 1 ?_
        refine ye [12,0,135,3,4,6,13,15] ?_
        refine pt_pick [1, 2, 3, 4, 5, 0, 6, 7] (by kernel_rfl) (es' := [(_,_),(_,_),(_,_),(_,_),(_,_),(_,_),(_,_),(_,_)]) rfl ?_
        exact pt_next _ (Option.some.inj h).symm rfl
      ·have h := cond_f hb50 h
       refine ht_exit ?_
       refine pt_x_then ?_
       refine pt_x_then ?_
       refine pt_x_in ?_
       refine pt_pick [0, 1, 2, 3, 4] (by kernel_rfl) (es' := [(_,_),(_,_),(_,_),(_,_),(_,_)]) rfl ?_
       exact hl45 _ (ho47 _ (Option.some.inj h).symm).symm
   ·intro u21 h hl22 hr23
    obtain ⟨v9, hv9, h⟩ := bind_some h
    obtain ⟨v10, hv10, h⟩ := bind_some h
    refine cond_some h (fun hg9_5 h => ?_) (fun hg9_5 h => ?_)
    ·refine yx hn 1 ?_
     refine ys 2 ⟨lg call17 (ok_dots_Check _ _ _ hv9) 135⟩ ?_
     refine yS (.v (.bool ((!((v9 == 0) == v8))))) 1 ⟨op_bne _ _ _ _ underlying4 rfl rfl⟩ ?_
     refine yd hg9_5 54 ?_
     refine ye [0,135,3,4,6,12,13,103] ?_
     exact hl22 _ (Option.some.inj h).symm
    ·refine cond_some h (fun hg9_8 h => ?_) (fun hg9_8 h => ?_)
     ·obtain ⟨v11, hv11, h⟩ := bind_some h
      refine cond_some h (fun hg9_12 h => ?_) (fun hg9_12 h => ?_)
      ·refine yx hn 1 ?_
       refine ys 2 ⟨lg call17 (ok_dots_Check _ _ _ hv9) 135⟩ ?_
       refine yS (.v (.bool ((!((v9 == 0) == v8))))) 1 ⟨op_bne _ _ _ _ underlying4 rfl rfl⟩ ?_
       refine yd hg9_5 3 ?_
       refine yd hg9_8 1 ?_
       refine ys 2 ⟨lg call17 (ok_dots_Check _ _ _ hv11) 135⟩ ?_
       refine yd hg9_12 47 ?_
       refine ye [0,135,3,4,6,12,13,103] ?_
       exact hl22 _ (Option.some.inj h).symm
      ·refine cond_some h (fun hg9_16 h => ?_) (fun hg9_16 h => ?_)
       ·refine yx hn 1 ?_
        refine ys 2 ⟨lg call17 (ok_dots_Check _ _ _ hv9) 135⟩ ?_
        refine yS (.v (.bool ((!((v9 == 0) == v8))))) 1 ⟨op_bne _ _ _ _ underlying4 rfl rfl⟩ ?_
        refine yd hg9_5 3 ?_
        refine yd hg9_8 1 ?_
        refine ys 2 ⟨lg call17 (ok_dots_Check _ _ _ hv11) 135⟩ ?_
        refine yd hg9_12 4 ?_
        refine yd hg9_16 43 ?_
        refine ye [0,135,3,4,6,12,13,103] ?_
        exact hl22 _ (Option.some.inj h).symm
       ·refine cond_some h (fun hg9_23 h => ?_) (fun hg9_23 h => ?_)
        ·refine yx hn 1 ?_
         refine ys 2 ⟨lg call17 (ok_dots_Check _ _ _ hv9) 135⟩ ?_
         refine yS (.v (.bool ((!((v9 == 0) == v8))))) 1 ⟨op_bne _ _ _ _ underlying4 rfl rfl⟩ ?_
         refine yd hg9_5 3 ?_
         refine yd hg9_8 1 ?_
         refine ys 2 ⟨lg call17 (ok_dots_Check _ _ _ hv11) 135⟩ ?_
         refine yd hg9_12 4 ?_
         refine yd hg9_16 7 ?_
         refine yd hg9_23 36 ?_
         refine ye [0,135,3,4,6,12,13,103] ?_
         exact hl22 _ (Option.some.inj h).symm
        ·refine cond_some h (fun hg9_25 h => ?_) (fun hg9_25 h => ?_)
         ·refine cond_some h (fun hg9_28 h => ?_) (fun hg9_28 h => ?_)
          ·refine yx hn 1 ?_
           refine ys 2 ⟨lg call17 (ok_dots_Check _ _ _ hv9) 135⟩ ?_
           refine yS (.v (.bool ((!((v9 == 0) == v8))))) 1 ⟨op_bne _ _ _ _ underlying4 rfl rfl⟩ ?_
           refine yd hg9_5 3 ?_
           refine yd hg9_8 1 ?_
           refine ys 2 ⟨lg call17 (ok_dots_Check _ _ _ hv11) 135⟩ ?_
           refine yd hg9_12 4 ?_
           refine yd hg9_16 7 ?_
           refine yd hg9_23 2 ?_
           refine yd hg9_25 3 ?_
           refine yd hg9_28 31 ?_
           refine ye [0,135,3,4,6,12,13,103] ?_
           exact hl22 _ (Option.some.inj h).symm
          ·obtain ⟨v12, hv12, h⟩ := bind_some h
           obtain ⟨v13, hv13, h⟩ := bind_some h
           refine cond_some h (fun hg9_37 h => ?_) (fun hg9_37 h => ?_)
           ·refine yx hn 1 ?_
            refine ys 2 ⟨lg call17 (ok_dots_Check _ _ _ hv9) 135⟩ ?_
            refine yS (.v (.bool ((!((v9 == 0) == v8))))) 1 ⟨op_bne _ _ _ _ underlying4 rfl rfl⟩ ?_
            refine yd hg9_5 3 ?_
            refine yd hg9_8 1 ?_
            refine ys 2 ⟨lg call17 (ok_dots_Check _ _ _ hv11) 135⟩ ?_
            refine yd hg9_12 4 ?_
            refine yd hg9_16 7 ?_
            refine yd hg9_23 2 ?_
            refine yd hg9_25 3 ?_
            refine yd hg9_28 2 ?_
            refine ys 0 ⟨lk call19 (ok_wherryref11_Stuff _ _ hv12)⟩ ?_
            refine ys 5 ⟨lk call18 (ok_wherrykeep_Bytes _ _ _ hv13)⟩ ?_
            refine yd hg9_37 22 ?_
            refine ye [0,135,3,4,6,12,13,103] ?_
            exact hl22 _ (Option.some.inj h).symm
           ·refine cond_some h (fun hg9_42 h => ?_) (fun hg9_42 h => ?_)
            ·refine yx hn 1 ?_
             refine ys 2 ⟨lg call17 (ok_dots_Check _ _ _ hv9) 135⟩ ?_
             refine yS (.v (.bool ((!((v9 == 0) == v8))))) 1 ⟨op_bne _ _ _ _ underlying4 rfl rfl⟩ ?_
             refine yd hg9_5 3 ?_
             refine yd hg9_8 1 ?_
             refine ys 2 ⟨lg call17 (ok_dots_Check _ _ _ hv11) 135⟩ ?_
             refine yd hg9_12 4 ?_
             refine yd hg9_16 7 ?_
             refine yd hg9_23 2 ?_
             refine yd hg9_25 3 ?_
             refine yd hg9_28 2 ?_
             refine ys 0 ⟨lk call19 (ok_wherryref11_Stuff _ _ hv12)⟩ ?_
             refine ys 5 ⟨lk call18 (ok_wherrykeep_Bytes _ _ _ hv13)⟩ ?_
             refine yd hg9_37 5 ?_
             refine yd hg9_42 17 ?_
             refine ye [0,135,3,4,6,12,13,103] ?_
             exact hl22 _ (Option.some.inj h).symm
            ·refine cond_some h (fun hg9_47 h => ?_) (fun hg9_47 h => ?_)
             ·refine yx hn 1 ?_
              refine ys 2 ⟨lg call17 (ok_dots_Check _ _ _ hv9) 135⟩ ?_
              refine yS (.v (.bool ((!((v9 == 0) == v8))))) 1 ⟨op_bne _ _ _ _ underlying4 rfl rfl⟩ ?_
              refine yd hg9_5 3 ?_
              refine yd hg9_8 1 ?_
              refine ys 2 ⟨lg call17 (ok_dots_Check _ _ _ hv11) 135⟩ ?_
              refine yd hg9_12 4 ?_
              refine yd hg9_16 7 ?_
              refine yd hg9_23 2 ?_
              refine yd hg9_25 3 ?_
              refine yd hg9_28 2 ?_
              refine ys 0 ⟨lk call19 (ok_wherryref11_Stuff _ _ hv12)⟩ ?_
              refine ys 5 ⟨lk call18 (ok_wherrykeep_Bytes _ _ _ hv13)⟩ ?_
              refine yd hg9_37 5 ?_
              refine yd hg9_42 5 ?_
              refine yd hg9_47 12 ?_
              refine ye [0,135,3,4,6,12,13,103] ?_
              exact hl22 _ (Option.some.inj h).symm
             ·obtain ⟨v14, hv14, h⟩ := bind_some h
              refine cond_some h (fun hg9_53 h => ?_) (fun hg9_53 h => ?_)
              ·refine yx hn 1 ?_
               refine ys 2 ⟨lg call17 (ok_dots_Check _ _ _ hv9) 135⟩ ?_
               refine yS (.v (.bool ((!((v9 == 0) == v8))))) 1 ⟨op_bne _ _ _ _ underlying4 rfl rfl⟩ ?_
               refine yd hg9_5 3 ?_
               refine yd hg9_8 1 ?_
               refine ys 2 ⟨lg call17 (ok_dots_Check _ _ _ hv11) 135⟩ ?_
               refine yd hg9_12 4 ?_
               refine yd hg9_16 7 ?_
               refine yd hg9_23 2 ?_
               refine yd hg9_25 3 ?_
               refine yd hg9_28 2 ?_
               refine ys 0 ⟨lk call19 (ok_wherryref11_Stuff _ _ hv12)⟩ ?_
               refine ys 5 ⟨lk call18 (ok_wherrykeep_Bytes _ _ _ hv13)⟩ ?_
               refine yd hg9_37 5 ?_
               refine yd hg9_42 5 ?_
               refine yd hg9_47 1 ?_
               refine ym 0 ?_
               refine ys 3 ⟨lk call18 (ok_wherrykeep_Bytes _ _ _ hv14)⟩ ?_
               refine yd hg9_53 6 ?_
               refine ye [0,135,3,4,6,12,13,103] ?_
               exact hl22 _ (Option.some.inj h).symm
              ·refine yx hn 1 ?_
               refine ys 2 ⟨lg call17 (ok_dots_Check _ _ _ hv9) 135⟩ ?_
               refine yS (.v (.bool ((!((v9 == 0) == v8))))) 1 ⟨op_bne _ _ _ _ underlying4 rfl rfl⟩ ?_
               refine yd hg9_5 3 ?_
               refine yd hg9_8 1 ?_
               refine ys 2 ⟨lg call17 (ok_dots_Check _ _ _ hv11) 135⟩ ?_
               refine yd hg9_12 4 ?_
               refine yd hg9_16 7 ?_
               refine yd hg9_23 2 ?_
               refine yd hg9_25 3 ?_
               refine yd hg9_28 2 ?_
               refine ys 0 ⟨lk call19 (ok_wherryref11_Stuff _ _ hv12)⟩ ?_
               refine ys 5 ⟨lk call18 (ok_wherrykeep_Bytes _ _ _ hv13)⟩ ?_
               refine yd hg9_37 5 ?_
               refine yd hg9_42 5 ?_
               refine yd hg9_47 1 ?_
               refine ym 0 ?_
               refine ys 3 ⟨lk call18 (ok_wherrykeep_Bytes _ _ _ hv14)⟩ ?_
               refine yd hg9_53 0 ?_
               refine yS (.same (.slot 12)) 0 ⟨op_move_name _ _ _ rfl⟩ ?_
               refine yS (.v (.int .i64 (v6.length : Int))) 4 ⟨op_len_own _ _ _ underlying29 rfl (rowsO_len _) (by decide)⟩ ?_
               refine ye [0,135,3,4,6,12,13,103] ?_
               exact hl22 _ (Option.some.inj h).symm
         ·refine cond_some h (fun hg9_42 h => ?_) (fun hg9_42 h => ?_)
          ·refine yx hn 1 ?_
           refine ys 2 ⟨lg call17 (ok_dots_Check _ _ _ hv9) 135⟩ ?_
           refine yS (.v (.bool ((!((v9 == 0) == v8))))) 1 ⟨op_bne _ _ _ _ underlying4 rfl rfl⟩ ?_
           refine yd hg9_5 3 ?_
           refine yd hg9_8 1 ?_
           refine ys 2 ⟨lg call17 (ok_dots_Check _ _ _ hv11) 135⟩ ?_
           refine yd hg9_12 4 ?_
           refine yd hg9_16 7 ?_
           refine yd hg9_23 2 ?_
           refine yd hg9_25 17 ?_
           refine yd hg9_42 17 ?_
           refine ye [0,135,3,4,6,12,13,103] ?_
           exact hl22 _ (Option.some.inj h).symm
          ·refine cond_some h (fun hg9_47 h => ?_) (fun hg9_47 h => ?_)
           ·refine yx hn 1 ?_
            refine ys 2 ⟨lg call17 (ok_dots_Check _ _ _ hv9) 135⟩ ?_
            refine yS (.v (.bool ((!((v9 == 0) == v8))))) 1 ⟨op_bne _ _ _ _ underlying4 rfl rfl⟩ ?_
            refine yd hg9_5 3 ?_
            refine yd hg9_8 1 ?_
            refine ys 2 ⟨lg call17 (ok_dots_Check _ _ _ hv11) 135⟩ ?_
            refine yd hg9_12 4 ?_
            refine yd hg9_16 7 ?_
            refine yd hg9_23 2 ?_
            refine yd hg9_25 17 ?_
            refine yd hg9_42 5 ?_
            refine yd hg9_47 12 ?_
            refine ye [0,135,3,4,6,12,13,103] ?_
            exact hl22 _ (Option.some.inj h).symm
           ·obtain ⟨v15, hv15, h⟩ := bind_some h
            refine cond_some h (fun hg9_53 h => ?_) (fun hg9_53 h => ?_)
            ·refine yx hn 1 ?_
             refine ys 2 ⟨lg call17 (ok_dots_Check _ _ _ hv9) 135⟩ ?_
             refine yS (.v (.bool ((!((v9 == 0) == v8))))) 1 ⟨op_bne _ _ _ _ underlying4 rfl rfl⟩ ?_
             refine yd hg9_5 3 ?_
             refine yd hg9_8 1 ?_
             refine ys 2 ⟨lg call17 (ok_dots_Check _ _ _ hv11) 135⟩ ?_
             refine yd hg9_12 4 ?_
             refine yd hg9_16 7 ?_
             refine yd hg9_23 2 ?_
             refine yd hg9_25 17 ?_
             refine yd hg9_42 5 ?_
             refine yd hg9_47 1 ?_
             refine ym 0 ?_
             refine ys 3 ⟨lk call18 (ok_wherrykeep_Bytes _ _ _ hv15)⟩ ?_
             refine yd hg9_53 6 ?_
             refine ye [0,135,3,4,6,12,13,103] ?_
             exact hl22 _ (Option.some.inj h).symm
            ·refine yx hn 1 ?_
             refine ys 2 ⟨lg call17 (ok_dots_Check _ _ _ hv9) 135⟩ ?_
             refine yS (.v (.bool ((!((v9 == 0) == v8))))) 1 ⟨op_bne _ _ _ _ underlying4 rfl rfl⟩ ?_
             refine yd hg9_5 3 ?_
             refine yd hg9_8 1 ?_
             refine ys 2 ⟨lg call17 (ok_dots_Check _ _ _ hv11) 135⟩ ?_
             refine yd hg9_12 4 ?_
             refine yd hg9_16 7 ?_
             refine yd hg9_23 2 ?_
             refine yd hg9_25 17 ?_
             refine yd hg9_42 5 ?_
             refine yd hg9_47 1 ?_
             refine ym 0 ?_
             refine ys 3 ⟨lk call18 (ok_wherrykeep_Bytes _ _ _ hv15)⟩ ?_
             refine yd hg9_53 0 ?_
             refine yS (.same (.slot 12)) 0 ⟨op_move_name _ _ _ rfl⟩ ?_
             refine yS (.v (.int .i64 (v6.length : Int))) 4 ⟨op_len_own _ _ _ underlying29 rfl (rowsO_len _) (by decide)⟩ ?_
             refine ye [0,135,3,4,6,12,13,103] ?_
             exact hl22 _ (Option.some.inj h).symm
     ·refine cond_some h (fun hg9_25 h => ?_) (fun hg9_25 h => ?_)
      ·refine cond_some h (fun hg9_28 h => ?_) (fun hg9_28 h => ?_)
       ·refine yx hn 1 ?_
        refine ys 2 ⟨lg call17 (ok_dots_Check _ _ _ hv9) 135⟩ ?_
        refine yS (.v (.bool ((!((v9 == 0) == v8))))) 1 ⟨op_bne _ _ _ _ underlying4 rfl rfl⟩ ?_
        refine yd hg9_5 3 ?_
        refine yd hg9_8 17 ?_
        refine yd hg9_25 3 ?_
        refine yd hg9_28 31 ?_
        refine ye [0,135,3,4,6,12,13,103] ?_
        exact hl22 _ (Option.some.inj h).symm
       ·obtain ⟨v16, hv16, h⟩ := bind_some h
        obtain ⟨v17, hv17, h⟩ := bind_some h
        refine cond_some h (fun hg9_37 h => ?_) (fun hg9_37 h => ?_)
        ·refine yx hn 1 ?_
         refine ys 2 ⟨lg call17 (ok_dots_Check _ _ _ hv9) 135⟩ ?_
         refine yS (.v (.bool ((!((v9 == 0) == v8))))) 1 ⟨op_bne _ _ _ _ underlying4 rfl rfl⟩ ?_
         refine yd hg9_5 3 ?_
         refine yd hg9_8 17 ?_
         refine yd hg9_25 3 ?_
         refine yd hg9_28 2 ?_
         refine ys 0 ⟨lk call19 (ok_wherryref11_Stuff _ _ hv16)⟩ ?_
         refine ys 5 ⟨lk call18 (ok_wherrykeep_Bytes _ _ _ hv17)⟩ ?_
         refine yd hg9_37 22 ?_
         refine ye [0,135,3,4,6,12,13,103] ?_
         exact hl22 _ (Option.some.inj h).symm
        ·refine cond_some h (fun hg9_42 h => ?_) (fun hg9_42 h => ?_)
         ·refine yx hn 1 ?_
          refine ys 2 ⟨lg call17 (ok_dots_Check _ _ _ hv9) 135⟩ ?_
          refine yS (.v (.bool ((!((v9 == 0) == v8))))) 1 ⟨op_bne _ _ _ _ underlying4 rfl rfl⟩ ?_
          refine yd hg9_5 3 ?_
          refine yd hg9_8 17 ?_
          refine yd hg9_25 3 ?_
          refine yd hg9_28 2 ?_
          refine ys 0 ⟨lk call19 (ok_wherryref11_Stuff _ _ hv16)⟩ ?_
          refine ys 5 ⟨lk call18 (ok_wherrykeep_Bytes _ _ _ hv17)⟩ ?_
          refine yd hg9_37 5 ?_
          refine yd hg9_42 17 ?_
          refine ye [0,135,3,4,6,12,13,103] ?_
          exact hl22 _ (Option.some.inj h).symm
         ·refine cond_some h (fun hg9_47 h => ?_) (fun hg9_47 h => ?_)
          ·refine yx hn 1 ?_
           refine ys 2 ⟨lg call17 (ok_dots_Check _ _ _ hv9) 135⟩ ?_
           refine yS (.v (.bool ((!((v9 == 0) == v8))))) 1 ⟨op_bne _ _ _ _ underlying4 rfl rfl⟩ ?_
           refine yd hg9_5 3 ?_
           refine yd hg9_8 17 ?_
           refine yd hg9_25 3 ?_
           refine yd hg9_28 2 ?_
           refine ys 0 ⟨lk call19 (ok_wherryref11_Stuff _ _ hv16)⟩ ?_
           refine ys 5 ⟨lk call18 (ok_wherrykeep_Bytes _ _ _ hv17)⟩ ?_
           refine yd hg9_37 5 ?_
           refine yd hg9_42 5 ?_
           refine yd hg9_47 12 ?_
           refine ye [0,135,3,4,6,12,13,103] ?_
           exact hl22 _ (Option.some.inj h).symm
          ·obtain ⟨v18, hv18, h⟩ := bind_some h
           refine cond_some h (fun hg9_53 h => ?_) (fun hg9_53 h => ?_)
           ·refine yx hn 1 ?_
            refine ys 2 ⟨lg call17 (ok_dots_Check _ _ _ hv9) 135⟩ ?_
            refine yS (.v (.bool ((!((v9 == 0) == v8))))) 1 ⟨op_bne _ _ _ _ underlying4 rfl rfl⟩ ?_
            refine yd hg9_5 3 ?_
            refine yd hg9_8 17 ?_
            refine yd hg9_25 3 ?_
            refine yd hg9_28 2 ?_
            refine ys 0 ⟨lk call19 (ok_wherryref11_Stuff _ _ hv16)⟩ ?_
            refine ys 5 ⟨lk call18 (ok_wherrykeep_Bytes _ _ _ hv17)⟩ ?_
            refine yd hg9_37 5 ?_
            refine yd hg9_42 5 ?_
            refine yd hg9_47 1 ?_
            refine ym 0 ?_
            refine ys 3 ⟨lk call18 (ok_wherrykeep_Bytes _ _ _ hv18)⟩ ?_
            refine yd hg9_53 6 ?_
            refine ye [0,135,3,4,6,12,13,103] ?_
            exact hl22 _ (Option.some.inj h).symm
           ·refine yx hn 1 ?_
            refine ys 2 ⟨lg call17 (ok_dots_Check _ _ _ hv9) 135⟩ ?_
            refine yS (.v (.bool ((!((v9 == 0) == v8))))) 1 ⟨op_bne _ _ _ _ underlying4 rfl rfl⟩ ?_
            refine yd hg9_5 3 ?_
            refine yd hg9_8 17 ?_
            refine yd hg9_25 3 ?_
            refine yd hg9_28 2 ?_
            refine ys 0 ⟨lk call19 (ok_wherryref11_Stuff _ _ hv16)⟩ ?_
            refine ys 5 ⟨lk call18 (ok_wherrykeep_Bytes _ _ _ hv17)⟩ ?_
            refine yd hg9_37 5 ?_
            refine yd hg9_42 5 ?_
            refine yd hg9_47 1 ?_
            refine ym 0 ?_
            refine ys 3 ⟨lk call18 (ok_wherrykeep_Bytes _ _ _ hv18)⟩ ?_
            refine yd hg9_53 0 ?_
            refine yS (.same (.slot 12)) 0 ⟨op_move_name _ _ _ rfl⟩ ?_
            refine yS (.v (.int .i64 (v6.length : Int))) 4 ⟨op_len_own _ _ _ underlying29 rfl (rowsO_len _) (by decide)⟩ ?_
            refine ye [0,135,3,4,6,12,13,103] ?_
            exact hl22 _ (Option.some.inj h).symm
      ·refine cond_some h (fun hg9_42 h => ?_) (fun hg9_42 h => ?_)
       ·refine yx hn 1 ?_
        refine ys 2 ⟨lg call17 (ok_dots_Check _ _ _ hv9) 135⟩ ?_
        refine yS (.v (.bool ((!((v9 == 0) == v8))))) 1 ⟨op_bne _ _ _ _ underlying4 rfl rfl⟩ ?_
        refine yd hg9_5 3 ?_
        refine yd hg9_8 17 ?_
        refine yd hg9_25 17 ?_
        refine yd hg9_42 17 ?_
        refine ye [0,135,3,4,6,12,13,103] ?_
        exact hl22 _ (Option.some.inj h).symm
       ·refine cond_some h (fun hg9_47 h => ?_) (fun hg9_47 h => ?_)
        ·refine yx hn 1 ?_
         refine ys 2 ⟨lg call17 (ok_dots_Check _ _ _ hv9) 135⟩ ?_
         refine yS (.v (.bool ((!((v9 == 0) == v8))))) 1 ⟨op_bne _ _ _ _ underlying4 rfl rfl⟩ ?_
         refine yd hg9_5 3 ?_
         refine yd hg9_8 17 ?_
         refine yd hg9_25 17 ?_
         refine yd hg9_42 5 ?_
         refine yd hg9_47 12 ?_
         refine ye [0,135,3,4,6,12,13,103] ?_
         exact hl22 _ (Option.some.inj h).symm
        ·obtain ⟨v19, hv19, h⟩ := bind_some h
         refine cond_some h (fun hg9_53 h => ?_) (fun hg9_53 h => ?_)
         ·refine yx hn 1 ?_
          refine ys 2 ⟨lg call17 (ok_dots_Check _ _ _ hv9) 135⟩ ?_
          refine yS (.v (.bool ((!((v9 == 0) == v8))))) 1 ⟨op_bne _ _ _ _ underlying4 rfl rfl⟩ ?_
          refine yd hg9_5 3 ?_
          refine yd hg9_8 17 ?_
          refine yd hg9_25 17 ?_
          refine yd hg9_42 5 ?_
          refine yd hg9_47 1 ?_
          refine ym 0 ?_
          refine ys 3 ⟨lk call18 (ok_wherrykeep_Bytes _ _ _ hv19)⟩ ?_
          refine yd hg9_53 6 ?_
          refine ye [0,135,3,4,6,12,13,103] ?_
          exact hl22 _ (Option.some.inj h).symm
         ·refine yx hn 1 ?_
          refine ys 2 ⟨lg call17 (ok_dots_Check _ _ _ hv9) 135⟩ ?_
          refine yS (.v (.bool ((!((v9 == 0) == v8))))) 1 ⟨op_bne _ _ _ _ underlying4 rfl rfl⟩ ?_
          refine yd hg9_5 3 ?_
          refine yd hg9_8 17 ?_
          refine yd hg9_25 17 ?_
          refine yd hg9_42 5 ?_
          refine yd hg9_47 1 ?_
          refine ym 0 ?_
          refine ys 3 ⟨lk call18 (ok_wherrykeep_Bytes _ _ _ hv19)⟩ ?_
          refine yd hg9_53 0 ?_
          refine yS (.same (.slot 12)) 0 ⟨op_move_name _ _ _ rfl⟩ ?_
          refine yS (.v (.int .i64 (v6.length : Int))) 4 ⟨op_len_own _ _ _ underlying29 rfl (rowsO_len _) (by decide)⟩ ?_
          refine ye [0,135,3,4,6,12,13,103] ?_
          exact hl22 _ (Option.some.inj h).symm

end Go.Proofs.YtgonanjdmdlkjaaDoor
