/-
  The model's runs are what is told in Lean.
-/
import Derived.Test.YtglabbpbianmnaaGreatDoorProg
import Derived.KernelRfl
import Derived.Test.YtglabbpbianmnaaGreatDoorShelf
import Derived.Test.YtglabbpbianmnaaGreatDoorIdx
import Derived.Test.YtglabbpbianmnaaGreatDoorBH
import Derived.Test.YtglabbpbianmnaaGreatDoorC1
import Derived.Test.YtglabbpbianmnaaGreatDoorOkc1
set_option linter.unusedVariables false
set_option linter.unusedSimpArgs false
set_option maxHeartbeats 1000000
namespace Go.Proofs.YtglabbpbianmnaaGreatDoor
open Go.Abs Go.Abs.Sh Tryz
open List (map flatten)
open Value (int)
theorem ok_wherryref08_Carry (b:(List Int)) (width:Int) (divisor:Int) (r:Int) (h:Sh.wherryref08_Carry b width divisor=some r):FnOK Tryz.prog 48 [.fl .shr 1 (map (int .u8) b), .v (.int .i64 width), .v (.int .i64 divisor)] (.v (.int .i64 r)):=by
  unfold Sh.wherryref08_Carry at h
  refine yO 49 func48 fun g0 hn hio => ?_
  refine yyy hn 1 [0,1,2] ?_
  refine ht_seq ?_
  obtain ⟨v1, hv1, h⟩:=zn h
  obtain ⟨v2, hv2, h⟩:=zn h
  obtain ⟨v3, hv3, h⟩:=zn h
  refine yx hn 1 ?_
  refine ys 0 ⟨lv hv1⟩ ?_
  refine ys 0 ⟨lB (shl_ok hv2)⟩ ?_
  refine ys 1 ⟨lb hv3⟩ ?_
  refine yee [0,1,2,7] ?_
  refine ht_seq ?_
  refine yyy hn 1 [0,1,2,7,8] ?_
  refine ht_loopS h (fun ((s97,s98):Int×Int)=>[(0,fb b),(1,vi width),(2,vi divisor),(7,vi s97),(8,vi s98)]) (fun (s139:Int)=>[(1,vi width),(7,vi s139)]) ?_ ?_
  ·rintro s139 h
   refine pt_then (ht_seq ?_)
   obtain ⟨v186, hv186, h⟩:=zn h
   obtain ⟨v187, hv187, h⟩:=zn h
   obtain ⟨v188, hv188, h⟩:=zn h
   obtain ⟨v189, hv189, h⟩:=zn h
   refine yx hn 2 ?_
   refine ys 0 ⟨lv hv186⟩ ?_
   refine ys 0 ⟨lB (shl_ok hv187)⟩ ?_
   refine ys 0 ⟨lb hv188⟩ ?_
   refine ys 1 ⟨lb hv189⟩ ?_
   refine yee [6] ?_
   refine ht_ret ?_
   obtain rfl:=zi h
   exact pt_ret hio rfl (.tmp _ _ .nil) rfl rfl
  ·rintro u140 hl141 hr142 ⟨s97, s98⟩ rr145 h ho143
   refine ht_seq ?_
   refine yyy hn 4 [0,1,2,7,8,18] ?_
   refine ht_cond _ rfl (fun hb146 => ?_) (fun hb146 => ?_)
   ·have h:=cond_t hb146 h
    refine ht_skip ?_
    refine pt_then (ht_seq ?_)
    refine ht_block ?_
    refine yyy hn 1 [0,1,2,7,8,9] ?_
    refine ht_loopS h (fun ((s163,s164):Int×Int)=>[(0,fb b),(1,vi width),(2,vi divisor),(7,vi s163),(8,vi s98),(9,vi s164)]) (fun (s172:Int)=>[(0,fb b),(1,vi width),(2,vi divisor),(7,vi s172),(8,vi s98)]) ?_ ?_
    ·rintro s172 h
     refine pt_inb ?_
     refine pt_then ?_
     obtain ⟨v54, hv54, h⟩:=zn h
     refine yx hn 1 ?_
     refine ys 0 ⟨lb hv54⟩ ?_
     refine yw [8] 1 ?_
     refine ye [0,1,2,7,8] ?_
     exact pt_next _ (zi h).symm rfl
    ·rintro u173 hl174 hr175 ⟨s163, s164⟩ rr178 h ho176
     refine ht_seq ?_
     refine yyy hn 2 [0,1,2,7,8,9,22] ?_
     refine ht_cond _ rfl (fun hb179 => ?_) (fun hb179 => ?_)
     ·have h:=cond_t hb179 h
      refine ht_skip ?_
      refine pt_then (ht_seq ?_)
      refine ht_joinS h (fun (s181:Int)=>[(0,fb b),(1,vi width),(2,vi divisor),(8,vi s98),(9,vi s164),(7,vi s181)]) ?_ ?_
      ·rintro s181 h
       refine pt_then ?_
       obtain ⟨v21, hv21, h⟩:=zn h
       refine yx hn 1 ?_
       refine ys 0 ⟨lb hv21⟩ ?_
       refine yw [9] 1 ?_
       refine ye [0,1,2,8,7,9] ?_
       refine pt_pick [0,1,2,4,3,5] (by kernel_rfl) (es':=[(_,_),(_,_),(_,_),(_,_),(_,_),(_,_)]) rfl ?_
       exact pt_next _ (zi h).symm rfl
      ·intro u182 h hl183 hr184
       refine ht_block ?_
       refine ht_seq ?_
       obtain ⟨v6, hv6, h⟩:=zn h
       refine yx hn 1 ?_
       refine ys 1 ⟨lb hv6⟩ ?_
       refine yee [0,1,2,7,8,9,10] ?_
       refine ht_seq ?_
       obtain ⟨v7, hv7, h⟩:=zn h
       refine yx hn 1 ?_
       refine ys 0 ⟨lB (shr_ok hv7)⟩ ?_
       refine yw [7] 1 ?_
       refine yee [0,1,2,8,9,10,7] ?_
       refine ht_seq ?_
       obtain ⟨v8, hv8, h⟩:=zn h
       obtain ⟨v9, hv9, h⟩:=zn h
       obtain ⟨v10, hv10, h⟩:=zn h
       obtain ⟨v11, hv11, h⟩:=zn h
       obtain ⟨v12, hv12, h⟩:=zn h
       obtain ⟨v13, hv13, h⟩:=zn h
       refine yx hn 3 ?_
       refine ys 0 ⟨li hv8⟩ ?_
       refine ys 1 ⟨ll hv9⟩ ?_
       refine ys 0 ⟨lv hv10⟩ ?_
       refine ys 0 ⟨lB (shr_ok hv11)⟩ ?_
       refine ys 0 ⟨lv hv12⟩ ?_
       refine ys 1 ⟨lb hv13⟩ ?_
       refine yee [0,1,2,8,9,7,39] ?_
       refine ht_cond _ rfl (fun hb185 => ?_) (fun hb185 => ?_)
       ·have h:=cond_t hb185 h
        obtain ⟨v15, hv15, h⟩:=zn h
        refine yx hn 2 ?_
        refine ys 0 ⟨lb hv15⟩ ?_
        refine yw [7] 1 ?_
        refine ye [0,1,2,8,9,7] ?_
        refine pt_inb ?_
        exact hl183 _ (zi h).symm
       ·have h:=cond_f hb185 h
        refine ht_skip ?_
        refine pt_inb ?_
        refine pt_pick [0,1,2,3,4,5] (by kernel_rfl) (es':=[(_,_),(_,_),(_,_),(_,_),(_,_),(_,_)]) rfl ?_
        exact hl183 _ (zi h).symm
     ·have h:=cond_f hb179 h
      refine ht_exit ?_
      refine pt_x_then ?_
      refine pt_x_then ?_
      refine pt_x_in ?_
      refine pt_pick [0,1,2,3,4] (by kernel_rfl) (es':=[(_,_),(_,_),(_,_),(_,_),(_,_)]) rfl ?_
      exact hl174 _ (ho176 _ (zi h).symm).symm
   ·have h:=cond_f hb146 h
    refine ht_exit ?_
    refine pt_x_then ?_
    refine pt_x_then ?_
    refine pt_x_in ?_
    refine pt_pick [1,3] (by kernel_rfl) (es':=[(_,_),(_,_)]) rfl ?_
    exact hl141 _ (ho143 _ (zi h).symm).symm
theorem ok_wherryref08_Long (b:(List Int)) (r:Int) (h:Sh.wherryref08_Long b=some r):FnOK Tryz.prog 28 [.fl .shr 1 (map (int .u8) b)] (.v (.int .i64 r)):=by
  unfold Sh.wherryref08_Long at h
  refine yO 5 func28 fun g0 hn hio => ?_
  refine yyy hn 1 [0] ?_
  refine ht_seq ?_
  obtain ⟨v1, hv1, h⟩:=zn h
  refine yx hn 1 ?_
  refine ys 1 ⟨lk call48 (ok_wherryref08_Carry _ _ _ _ hv1)⟩ ?_
  refine yee [2] ?_
  refine ht_ret ?_
  obtain rfl:=zi h
  exact pt_ret hio rfl (.tmp _ _ .nil) rfl rfl
theorem ok_wherryref11_BundleBytes (b:T_Bundle) (r:((List Int)×Int)) (h:Sh.wherryref11_BundleBytes b=some r):FnOK Tryz.prog 14 [.agg [.v (.int .i64 b.Origin), .v (.int .i64 b.Number), .fr .shr true 8 (flatten (map T_Mail.ienc b.Mails))]] (.tup [.mkr 5 (map (int .u8) r.1), .v (.int .i64 r.2)]):=by
  unfold Sh.wherryref11_BundleBytes at h
  refine yO 45 func14 fun g0 hn hio => ?_
  refine yyy hn 3 [1] ?_
  refine ht_seq ?_
  refine ht_seq ?_
  obtain ⟨v1, hv1, h⟩:=zn h
  refine yx hn 1 ?_
  refine ys 1 ⟨lk call20 (ok_wherryref11_Bundle _ _ hv1)⟩ ?_
  refine yee [1,8] ?_
  refine ht_cond _ rfl (fun hb24 => ?_) (fun hb24 => ?_)
  ·have h:=cond_t hb24 h
   refine yyy hn 2 [2,3] ?_
   refine ht_ret ?_
   refine pt_sub (fs:=[(2,.mkr 5 (map (int .u8) [])),(3,vi 5)]) (.sub _ (sub_nil_mk 5) rfl (.same _ .nil)) ?_
   refine pt_r_then ?_
   obtain rfl:=zi h
   exact pt_ret hio rfl (.tmp _ _ (.tmp _ _ .nil)) rfl rfl
  ·have h:=cond_f hb24 h
   refine ht_skip ?_
   refine pt_then (ht_seq ?_)
   obtain ⟨v3, hv3, h⟩:=zn h
   refine yx hn 1 ?_
   refine ys 0 ⟨lk call33 (ok_wherryref11_commands _ _ hv3)⟩ ?_
   refine ya 0 ?_
   refine yee [1,4] ?_
   refine ht_seq ?_
   obtain ⟨v4, hv4, h⟩:=zn h
   obtain ⟨v5, hv5, h⟩:=zn h
   obtain ⟨v6, hv6, h⟩:=zn h
   obtain ⟨v7, hv7, h⟩:=zn h
   obtain ⟨v8, hv8, h⟩:=zn h
   obtain ⟨v9, hv9, h⟩:=zn h
   obtain ⟨v10, hv10, h⟩:=zn h
   obtain ⟨v11, hv11, h⟩:=zn h
   obtain ⟨v12, hv12, h⟩:=zn h
   obtain ⟨v13, hv13, h⟩:=zn h
   obtain ⟨v14, hv14, h⟩:=zn h
   obtain ⟨v15, hv15, h⟩:=zn h
   obtain ⟨v16, hv16, h⟩:=zn h
   obtain ⟨v17, hv17, h⟩:=zn h
   obtain ⟨v18, hv18, h⟩:=zn h
   obtain ⟨v19, hv19, h⟩:=zn h
   obtain ⟨v20, hv20, h⟩:=zn h
   refine wb [[1],[11,1]] ?_
   refine wN [12] ?_
   refine wo [] ⟨lk call27 (ok_wherryref11_Digits _ _ hv4)⟩ ?_
   refine wN [13] ?_
   refine wo [] ⟨lB (cat_ok hv5)⟩ ?_
   refine wN [14] ?_
   refine wo [[1],[16,1]] ⟨lB (cat_ok hv6)⟩ ?_
   refine wN [17] ?_
   refine wo [] ⟨lk call27 (ok_wherryref11_Digits _ _ hv7)⟩ ?_
   refine wN [15,18] ?_
   refine wo [] ⟨lB (cat_ok hv8)⟩ ?_
   refine wN [19] ?_
   refine wo [[1],[21,1],[22]] ⟨lB (cat_ok hv9)⟩ ?_
   refine wN [23] ?_
   refine wo [] ⟨lk call27 (ok_wherryref11_Digits _ _ hv10)⟩ ?_
   refine wN [20,24] ?_
   refine wo [] ⟨lB (cat_ok hv11)⟩ ?_
   refine wN [25] ?_
   refine wo [[4],[27,4]] ⟨lB (cat_ok hv12)⟩ ?_
   refine wN [28] ?_
   refine wo [] ⟨lk call27 (ok_wherryref11_Digits _ _ hv13)⟩ ?_
   refine wN [26,29] ?_
   refine wo [] ⟨lB (cat_ok hv14)⟩ ?_
   refine wN [30] ?_
   refine wo [[4]] ⟨lB (cat_ok hv15)⟩ ?_
   refine wN [32,4] ?_
   refine wo [] ⟨lk call28 (ok_wherryref08_Long _ _ hv16)⟩ ?_
   refine wN [33] ?_
   refine wo [] ⟨lk call27 (ok_wherryref11_Digits _ _ hv17)⟩ ?_
   refine wN [31,34] ?_
   refine wo [] ⟨lB (cat_ok hv18)⟩ ?_
   refine wN [35] ?_
   refine wo [] ⟨lB (cat_ok hv19)⟩ ?_
   refine wN [36] ?_
   refine wo [] ⟨lU hv20⟩ ?_
   refine wK [37] [] ?_
   refine wt [(5,.mkr 5 (map (int .u8) v20))] [] ⟨op_assign_take _ _ _ _ rfl⟩ ?_
   refine wee hn [4,5] ?_
   refine ht_seq ?_
   obtain ⟨v22, hv22, h⟩:=zn h
   refine yx hn 0 ?_
   refine ym 0 ?_
   refine ym 0 ?_
   refine yk [38] [39] ?_
   refine ytt (38,.any) (40,.mkr 5 (map (int .u8) v22)) 0 ⟨op_app_mk _ _ _ _ _ el25 rfl rfl rfl rfl hv22 rfl⟩ ?_
   refine ya 0 ?_
   refine yee [5] ?_
   refine ht_seq ?_
   refine yxx hn 1 ?_
   refine yS (vi (v22.length:Int)) 1 ⟨op_len_mk _ _ _ underlying25 rfl (List.length_map _)⟩ ?_
   refine yee [5,43] ?_
   refine ht_cond _ rfl (fun hb25 => ?_) (fun hb25 => ?_)
   ·have h:=cond_t hb25 h
    refine yyy hn 2 [2,3] ?_
    refine ht_ret ?_
    refine pt_sub (fs:=[(2,.mkr 5 (map (int .u8) [])),(3,vi 2)]) (.sub _ (sub_nil_mk 5) rfl (.same _ .nil)) ?_
    refine pt_r_then ?_
    obtain rfl:=zi h
    exact pt_ret hio rfl (.tmp _ _ (.tmp _ _ .nil)) rfl rfl
   ·have h:=cond_f hb25 h
    refine ht_skip ?_
    refine pt_then ?_
    refine yxx hn 0 ?_
    refine ym 0 ?_
    refine ya 1 ?_
    refine yee [2,3] ?_
    refine ht_ret ?_
    obtain rfl:=zi h
    exact pt_ret hio rfl (.tmp _ _ (.tmp _ _ .nil)) rfl rfl
theorem ok_wherrykeep_Twin (l:(List Int)) (r:(List Int)) (h:Sh.wherrykeep_Twin l=some r):FnOK Tryz.prog 12 [.fl .shr 1 (map (int .u8) l)] (.fl (.own 5) 1 (map (int .u8) r)):=by
  unfold Sh.wherrykeep_Twin at h
  refine yO 7 func12 fun g0 hn hio => ?_
  refine yyy hn 1 [0] ?_
  refine yyy hn 1 [0,3] ?_
  refine ht_seq ?_
  obtain ⟨v1, hv1, h⟩:=zn h
  refine yx hn 2 ?_
  refine yS (.fl (.own 5) 1 (map (int .u8) v1)) 0 ⟨op_app_nil _ _ _ _ el25 rfl rfl (map_len _) hv1 (congrArg (map _) (app_nil_eq hv1))⟩ ?_
  refine ya 0 ?_
  refine yee [2] ?_
  refine ht_ret ?_
  obtain rfl:=zi h
  exact pt_ret hio rfl (.tmp _ _ .nil) rfl rfl
theorem ok_strings_splitSeq (s:ByteArray) (sep:ByteArray) (sepSave:Int) (r:(ByteArray×ByteArray×Int)) (h:Sh.strings_splitSeq s sep sepSave=some r):FnOK Tryz.prog 155 [.v (.string s), .v (.string sep), .v (.int .i64 sepSave)] (.cloB 161 [.box 9 [.v (.string r.1)], .box 9 [.v (.string r.2.1)], .box 3 [.v (.int .i64 r.2.2)]]):=by
  unfold Sh.strings_splitSeq at h
  refine yO 8 func155 fun g0 hn hio => ?_
  refine yyy hn 4 [3,4,5] ?_
  refine yxx hn 0 ?_
  refine yk [4,3,5] [] ?_
  refine yt (7,.cloB 161 [.box 9 [vs sep],.box 9 [vs s],.box 3 [vi sepSave]]) 0 ⟨op_mkclo _ _ [4,3,5] [.box 9 [vs sep],.box 9 [vs s],.box 3 [vi sepSave]] rfl rfl rfl⟩ ?_
  refine ya 0 ?_
  refine yee [6] ?_
  refine ht_ret ?_
  obtain rfl:=zi h
  exact pt_ret hio rfl (.tmp _ _ .nil) rfl rfl
theorem ok_strings_SplitSeq (s:ByteArray) (sep:ByteArray) (r:(ByteArray×ByteArray×Int)) (h:Sh.strings_SplitSeq s sep=some r):FnOK Tryz.prog 135 [.v (.string s), .v (.string sep)] (.cloB 161 [.box 9 [.v (.string r.1)], .box 9 [.v (.string r.2.1)], .box 3 [.v (.int .i64 r.2.2)]]):=by
  unfold Sh.strings_SplitSeq at h
  refine yO 8 func135 fun g0 hn hio => ?_
  refine yyy hn 1 [0,1] ?_
  refine ht_seq ?_
  obtain ⟨v1, hv1, h⟩:=zn h
  refine yx hn 2 ?_
  refine yk [] [5,6] ?_
  refine yt (7,.cloB 161 [.box 9 [vs v1.1],.box 9 [vs v1.2.1],.box 3 [vi v1.2.2]]) 0 ⟨op_callS _ _ 155 _ _ rfl call155 rfl rfl (ok_strings_splitSeq s sep 0 _ hv1) rfl⟩ ?_
  refine ya 0 ?_
  refine yee [4] ?_
  refine ht_ret ?_
  obtain rfl:=zi h
  exact pt_ret hio rfl (.tmp _ _ .nil) rfl rfl
theorem ok_unicode_utf8_decodeRuneInStringSlow (mx:Int) (s:ByteArray) (r:(Int×Int)) (h:Sh.unicode_utf8_decodeRuneInStringSlow s=some r):FnG Tryz.prog (GL mx) 143 [.v (.string s)] (.tup [.v (.int .i32 r.1), .v (.int .i64 r.2)]):=by
  unfold Sh.unicode_utf8_decodeRuneInStringSlow at h
  refine yG 117 func143 fun g0 hn hio => ?_
  refine yyy hn 2 [0,117] ?_
  refine yyy hn 3 [0,117,4] ?_
  refine ht_seq ?_
  refine yyy hn 2 [0,117,4,16] ?_
  refine ht_cond _ rfl (fun hb1 => ?_) (fun hb1 => ?_)
  ·have h:=cond_t hb1 h
   refine yyy hn 2 [117,2,3] ?_
   refine ht_ret ?_
   refine pt_pick [1,2] (by kernel_rfl) (es':=[(_,_),(_,_)]) rfl ?_
   refine pt_r_then ?_
   obtain rfl:=zi h
   exact pt_ret hio rfl (.tmp _ _ (.tmp _ _ .nil)) rfl rfl
  ·have h:=cond_f hb1 h
   refine ht_skip ?_
   refine pt_then (ht_seq ?_)
   obtain ⟨v2, hv2, h⟩:=zn h
   refine yx hn 1 ?_
   refine ys 1 ⟨lh hv2⟩ ?_
   refine yee [0,117,4,5] ?_
   refine ht_seq ?_
   obtain ⟨v3, hv3, h⟩:=zn h
   obtain ⟨v4, hv4, h⟩:=zn h
   refine yx hn 1 ?_
   refine yS (.v (.pointer (some ⟨6,(0+v3 * 1),none⟩))) 0 ⟨op_ix_globz _ _ _ _ 256 6 0 _ 1 _ underlying183 sz5 rfl rfl (ix_ok hv3).1 (ix_ok hv3).2⟩ ?_
   refine yS (.v (.int .u8 v4)) 1 ⟨op_load_glob _ _ 117 6 _ _ _ underlying5 rfl rfl rfl (gl_mem6 mx) (map_get1 hv4)⟩ ?_
   refine yee [0,117,4,5,6] ?_
   refine ht_seq ?_
   refine yyy hn 2 [0,117,4,5,6,23] ?_
   refine ht_cond _ rfl (fun hb5 => ?_) (fun hb5 => ?_)
   ·have h:=cond_t hb5 h
    refine ht_seq ?_
    obtain ⟨v6, hv6, h⟩:=zn h
    obtain ⟨v7, hv7, h⟩:=zn h
    obtain ⟨v8, hv8, h⟩:=zn h
    refine yx hn 1 ?_
    refine ys 0 ⟨lv hv6⟩ ?_
    refine ys 0 ⟨lB (shl_ok hv7)⟩ ?_
    refine ys 1 ⟨lB (shr_ok hv8)⟩ ?_
    refine yee [0,117,7] ?_
    refine ht_seq ?_
    obtain ⟨v9, hv9, h⟩:=zn h
    obtain ⟨v10, hv10, h⟩:=zn h
    obtain ⟨v11, hv11, h⟩:=zn h
    obtain ⟨v12, hv12, h⟩:=zn h
    obtain ⟨v13, hv13, h⟩:=zn h
    refine yx hn 1 ?_
    refine ys 0 ⟨lh hv9⟩ ?_
    refine ys 1 ⟨lv hv10⟩ ?_
    refine ys 1 ⟨lb hv11⟩ ?_
    refine ys 0 ⟨lb hv12⟩ ?_
    refine ys 2 ⟨lb hv13⟩ ?_
    refine yee [117,2,3] ?_
    refine ht_ret ?_
    refine pt_pick [1,2] (by kernel_rfl) (es':=[(_,_),(_,_)]) rfl ?_
    refine pt_r_then ?_
    obtain rfl:=zi h
    exact pt_ret hio rfl (.tmp _ _ (.tmp _ _ .nil)) rfl rfl
   ·have h:=cond_f hb5 h
    cases h
theorem ok_unicode_utf8_DecodeRuneInString (mx:Int) (s:ByteArray) (r:(Int×Int)) (h:Sh.unicode_utf8_DecodeRuneInString s=some r):FnG Tryz.prog (GL mx) 117 [.v (.string s)] (.tup [.v (.int .i32 r.1), .v (.int .i64 r.2)]):=by
  unfold Sh.unicode_utf8_DecodeRuneInString at h
  refine yG 19 func117 fun g0 hn hio => ?_
  refine yyy hn 2 [0,19] ?_
  refine ht_seq ?_
  refine ht_seq ?_
  refine ht_joinS h (fun (s2:Bool)=>[(0,vs s),(19,.glob (GL mx)),(10,vb s2)]) ?_ ?_
  ·rintro s2 h
   refine pt_then ?_
   refine ht_cond _ rfl (fun hb6 => ?_) (fun hb6 => ?_)
   ·have h:=cond_t hb6 h
    refine ht_seq ?_
    obtain ⟨v7, hv7, h⟩:=zn h
    obtain ⟨v8, hv8, h⟩:=zn h
    refine yx hn 1 ?_
    refine ys 0 ⟨lh hv7⟩ ?_
    refine ys 2 ⟨lv hv8⟩ ?_
    refine yee [19,2,3] ?_
    refine ht_ret ?_
    refine pt_pick [1,2] (by kernel_rfl) (es':=[(_,_),(_,_)]) rfl ?_
    refine pt_r_then ?_
    obtain rfl:=zi h
    exact pt_ret hio rfl (.tmp _ _ (.tmp _ _ .nil)) rfl rfl
   ·have h:=cond_f hb6 h
    obtain ⟨v9, hv9, h⟩:=zn h
    refine yx hn 1 ?_
    refine ys 0 ⟨lg call143 (ok_unicode_utf8_decodeRuneInStringSlow _ _ _ hv9) 19⟩ ?_
    refine ym 4 ?_
    refine yee [19,2,3] ?_
    refine ht_ret ?_
    refine pt_pick [1,2] (by kernel_rfl) (es':=[(_,_),(_,_)]) rfl ?_
    obtain rfl:=zi h
    exact pt_ret hio rfl (.tmp _ _ (.tmp _ _ .nil)) rfl rfl
  ·intro u3 h hl4 hr5
   refine cond_some h (fun hg1_2 h => ?_) (fun hg1_2 h => ?_)
   ·obtain ⟨v1, hv1, h⟩:=zn h
    refine yx hn 3 ?_
    refine yd hg1_2 1 ?_
    refine ys 2 ⟨lh hv1⟩ ?_
    refine ye [0,19,10] ?_
    exact hl4 _ (zi h).symm
   ·refine yx hn 3 ?_
    refine yd hg1_2 4 ?_
    refine ye [0,19,10] ?_
    exact hl4 _ (zi h).symm
theorem ok_strings_Index (s sub:ByteArray) (r:Int) (h:Sh.strings_Index s sub=some r):FnOK Tryz.prog 98 [.v (.string s), .v (.string sub)] (.v (.int .i64 r)):=lib_strings_Index Tryz.strings_Index_one s sub r h
theorem ok_strings_splitSeq_1 (mx:Int) (l:Nat) {S:Type} (J:S→InvT) (Y:ByteArray→S→Option (S×Bool)) (hY:YieldOK Tryz.prog l (fun x => .v (.string x)) Y J) (c0:ByteArray) (c1:ByteArray) (c2:Int) (st r:S) (h:Sh.strings_splitSeq_1 Y c0 c1 c2 st=some r):FnI Tryz.prog (GL mx) 161 l [.box 9 [.v (.string c0)], .box 9 [.v (.string c1)], .box 3 [.v (.int .i64 c2)]] (J st) (J r):=by
  unfold Sh.strings_splitSeq_1 at h
  refine yI 52 func161 fun g0 hn hio => ?_
  refine ht_seq ?_
  refine yyy hn 3 [0,1,2,3,52,53,11] ?_
  refine ht_cond _ rfl (fun hb1 => ?_) (fun hb1 => ?_)
  ·have h:=cond_t hb1 h
   refine ht_seq ?_
   refine ht_pick [0,2,4,5] (by kernel_rfl) (es':=[(_,_),(_,_),(_,_),(_,_)]) rfl ?_
   refine ht_loopS h (fun ((s12,s13):ByteArray×S)=>[(0,.v (.func (.yield l) #[] #[])),(2,.box 9 [vs s12]),(52,.glob (GL mx)),(53,.inv (J s13))]) (fun (s16:S)=>[(52,.glob (GL mx)),(53,.inv (J s16))]) ?_ ?_
   ·rintro s16 h
    refine pt_then (ht_ret ?_)
    refine pt_pick [1] (by kernel_rfl) (es':=[(53,.inv (J s16))]) rfl ?_
    refine pt_r_then ?_
    obtain rfl:=zi h
    exact pt_retI hio rfl rfl rfl
   ·rintro u17 hl18 hr19 ⟨s12, s13⟩ rr22 h ho20
    refine ht_seq ?_
    refine yyy hn 3 [0,2,52,53,14] ?_
    refine ht_cond _ rfl (fun hb23 => ?_) (fun hb23 => ?_)
    ·have h:=cond_t hb23 h
     refine ht_skip ?_
     refine pt_then ?_
     refine ht_block ?_
     refine ht_seq ?_
     obtain ⟨v3, hv3, h⟩:=zn h
     refine yx hn 1 ?_
     refine ys 0 ⟨lg call117 (ok_unicode_utf8_DecodeRuneInString _ _ _ hv3) 52⟩ ?_
     refine ym 4 ?_
     refine yee [0,2,52,53,6] ?_
     refine ht_seq ?_
     refine ht_seq ?_
     obtain ⟨v4, hv4, h⟩:=zn h
     obtain ⟨v5, hv5, h⟩:=zn h
     refine yx hn 3 ?_
     refine yS (vs v4) 0 ⟨op_substr _ _ _ 0 v3.2 _ underlying9 rfl rfl ⟨_,rfl⟩ hv4⟩ ?_
     refine yk [53] [23,20] ?_
     refine ytt (53,.inv (J v5.1)) (24,vb v5.2) 1 ⟨op_yield _ _ 53 l v4 s13 v5 hY hv5 rfl rfl rfl⟩ ?_
     refine yee [0,2,52,53,6,25] ?_
     refine ht_cond _ rfl (fun hb24 => ?_) (fun hb24 => ?_)
     ·have h:=cond_t hb24 h
      refine ht_ret ?_
      refine pt_pick [3] (by kernel_rfl) (es':=[(53,.inv (J v5.1))]) rfl ?_
      refine pt_r_then ?_
      refine pt_r_in ?_
      refine pt_r_then ?_
      refine pt_r_in ?_
      refine pt_r_then ?_
      refine pt_r_then ?_
      have h:=hr19 _ (ho20 _ (zi h).symm).symm
      obtain rfl:=zi h
      exact pt_retI hio rfl rfl rfl
     ·have h:=cond_f hb24 h
      refine ht_skip ?_
      refine pt_then ?_
      obtain ⟨v7, hv7, h⟩:=zn h
      refine yx hn 2 ?_
      refine yS (vs v7) 1 ⟨op_substr _ _ _ v3.2 (s12.size:Int) _ underlying9 rfl ⟨_,rfl⟩ rfl hv7⟩ ?_
      refine ye [0,2,52,53] ?_
      refine pt_inb ?_
      exact pt_next _ (zi h).symm rfl
    ·have h:=cond_f hb23 h
     refine ht_exit ?_
     refine pt_x_then ?_
     refine pt_x_then ?_
     refine pt_x_in ?_
     refine pt_pick [2,3] (by kernel_rfl) (es':=[(_,_),(_,_)]) rfl ?_
     exact hl18 _ (ho20 _ (zi h).symm).symm
  ·have h:=cond_f hb1 h
   refine ht_skip ?_
   refine pt_then (ht_seq ?_)
   refine ht_pick [0,1,2,3,4,5] (by kernel_rfl) (es':=[(_,_),(_,_),(_,_),(_,_),(_,_),(_,_)]) rfl ?_
   refine ht_loopS h (fun ((s37,s38):ByteArray×S)=>[(0,.v (.func (.yield l) #[] #[])),(1,.box 9 [vs c0]),(2,.box 9 [vs s37]),(3,.box 3 [vi c2]),(52,.glob (GL mx)),(53,.inv (J s38))]) (fun ((s41,s42):ByteArray×S)=>[(0,.v (.func (.yield l) #[] #[])),(2,.box 9 [vs s41]),(52,.glob (GL mx)),(53,.inv (J s42))]) ?_ ?_
   ·rintro ⟨s41, s42⟩ h
    refine pt_then ?_
    obtain ⟨v51, hv51, h⟩:=zn h
    refine yx hn 2 ?_
    refine yk [53] [50,49] ?_
    refine ytt (53,.inv (J v51.1)) (51,vb v51.2) 0 ⟨op_yield _ _ 53 l s41 s42 v51 hY hv51 rfl rfl rfl⟩ ?_
    refine ye [52,53] ?_
    refine pt_pick [1] (by kernel_rfl) (es':=[(53,.inv (J v51.1))]) rfl ?_
    obtain rfl:=zi h
    exact pt_endI hio rfl rfl rfl
   ·rintro u43 hl44 hr45 ⟨s37, s38⟩ rr48 h ho46
    refine ht_block ?_
    refine ht_seq ?_
    obtain ⟨v25, hv25, h⟩:=zn h
    refine yx hn 2 ?_
    refine ys 1 ⟨lk call98 (ok_strings_Index _ _ _ hv25)⟩ ?_
    refine yee [0,1,2,3,52,53,7] ?_
    refine ht_seq ?_
    refine yyy hn 2 [0,1,2,3,52,53,7,33] ?_
    refine ht_cond _ rfl (fun hb49 => ?_) (fun hb49 => ?_)
    ·have h:=cond_t hb49 h
     refine ht_exit ?_
     refine pt_x_then ?_
     refine pt_x_out (by decide) ?_
     refine pt_x_then ?_
     refine pt_x_in ?_
     refine pt_pick [0,2,4,5] (by kernel_rfl) (es':=[(_,_),(_,_),(_,_),(_,_)]) rfl ?_
     exact hl44 _ (ho46 _ (zi h).symm).symm
    ·have h:=cond_f hb49 h
     refine ht_skip ?_
     refine pt_then (ht_seq ?_)
     obtain ⟨v27, hv27, h⟩:=zn h
     obtain ⟨v28, hv28, h⟩:=zn h
     refine yx hn 3 ?_
     refine ys 0 ⟨lb hv27⟩ ?_
     refine yS (vs v28) 1 ⟨op_substr _ _ _ 0 v27 _ underlying9 rfl rfl ⟨_,rfl⟩ hv28⟩ ?_
     refine yee [0,1,2,3,52,53,7,8] ?_
     refine ht_seq ?_
     refine ht_seq ?_
     obtain ⟨v29, hv29, h⟩:=zn h
     refine yx hn 2 ?_
     refine yk [53] [40,39] ?_
     refine ytt (53,.inv (J v29.1)) (41,vb v29.2) 1 ⟨op_yield _ _ 53 l v28 s38 v29 hY hv29 rfl rfl rfl⟩ ?_
     refine yee [0,1,2,3,52,53,7,42] ?_
     refine ht_cond _ rfl (fun hb50 => ?_) (fun hb50 => ?_)
     ·have h:=cond_t hb50 h
      refine ht_ret ?_
      refine pt_pick [5] (by kernel_rfl) (es':=[(53,.inv (J v29.1))]) rfl ?_
      refine pt_r_then ?_
      refine pt_r_in ?_
      refine pt_r_then ?_
      refine pt_r_in ?_
      refine pt_r_then ?_
      have h:=hr45 _ (ho46 _ (zi h).symm).symm
      obtain rfl:=zi h
      exact pt_retI hio rfl rfl rfl
     ·have h:=cond_f hb50 h
      refine ht_skip ?_
      refine pt_then ?_
      obtain ⟨v31, hv31, h⟩:=zn h
      obtain ⟨v32, hv32, h⟩:=zn h
      refine yx hn 4 ?_
      refine ys 0 ⟨lb hv31⟩ ?_
      refine yS (vs v32) 1 ⟨op_substr _ _ _ v31 (s37.size:Int) _ underlying9 rfl ⟨_,rfl⟩ rfl hv32⟩ ?_
      refine ye [0,1,2,3,52,53] ?_
      refine pt_inb ?_
      exact pt_next _ (zi h).symm rfl
theorem ok_path_alphanumeric (c:Int) (r:Bool) (h:Sh.path_alphanumeric c=some r):FnOK Tryz.prog 138 [.v (.int .u8 c)] (.v (.bool r)):=by
  unfold Sh.path_alphanumeric at h
  refine yO 25 func138 fun g0 hn hio => ?_
  refine yyy hn 1 [0] ?_
  refine ht_seq ?_
  refine ht_joinS h (fun (s1:Bool)=>[(2,vb s1)]) ?_ ?_
  ·rintro s1 h
   refine pt_then (ht_ret ?_)
   obtain rfl:=zi h
   exact pt_ret hio rfl (.tmp _ _ .nil) rfl rfl
  ·intro u2 h hl3 hr4
   refine cond_some h (fun hg1_2 h => ?_) (fun hg1_2 h => ?_)
   ·refine cond_some h (fun hg1_6 h => ?_) (fun hg1_6 h => ?_)
    ·refine yx hn 3 ?_
     refine yd hg1_2 4 ?_
     refine yd hg1_6 16 ?_
     refine ye [2] ?_
     exact hl3 _ (zi h).symm
    ·refine cond_some h (fun hg1_9 h => ?_) (fun hg1_9 h => ?_)
     ·refine cond_some h (fun hg1_14 h => ?_) (fun hg1_14 h => ?_)
      ·refine yx hn 3 ?_
       refine yd hg1_2 4 ?_
       refine yd hg1_6 3 ?_
       refine yd hg1_9 5 ?_
       refine yd hg1_14 8 ?_
       refine ye [2] ?_
       exact hl3 _ (zi h).symm
      ·refine cond_some h (fun hg1_17 h => ?_) (fun hg1_17 h => ?_)
       ·refine yx hn 3 ?_
        refine yd hg1_2 4 ?_
        refine yd hg1_6 3 ?_
        refine yd hg1_9 5 ?_
        refine yd hg1_14 3 ?_
        refine yd hg1_17 5 ?_
        refine ye [2] ?_
        exact hl3 _ (zi h).symm
       ·refine yx hn 3 ?_
        refine yd hg1_2 4 ?_
        refine yd hg1_6 3 ?_
        refine yd hg1_9 5 ?_
        refine yd hg1_14 3 ?_
        refine yd hg1_17 5 ?_
        refine ye [2] ?_
        exact hl3 _ (zi h).symm
     ·refine cond_some h (fun hg1_17 h => ?_) (fun hg1_17 h => ?_)
      ·refine yx hn 3 ?_
       refine yd hg1_2 4 ?_
       refine yd hg1_6 3 ?_
       refine yd hg1_9 8 ?_
       refine yd hg1_17 5 ?_
       refine ye [2] ?_
       exact hl3 _ (zi h).symm
      ·refine yx hn 3 ?_
       refine yd hg1_2 4 ?_
       refine yd hg1_6 3 ?_
       refine yd hg1_9 8 ?_
       refine yd hg1_17 5 ?_
       refine ye [2] ?_
       exact hl3 _ (zi h).symm
   ·refine cond_some h (fun hg1_9 h => ?_) (fun hg1_9 h => ?_)
    ·refine cond_some h (fun hg1_14 h => ?_) (fun hg1_14 h => ?_)
     ·refine yx hn 3 ?_
      refine yd hg1_2 7 ?_
      refine yd hg1_9 5 ?_
      refine yd hg1_14 8 ?_
      refine ye [2] ?_
      exact hl3 _ (zi h).symm
     ·refine cond_some h (fun hg1_17 h => ?_) (fun hg1_17 h => ?_)
      ·refine yx hn 3 ?_
       refine yd hg1_2 7 ?_
       refine yd hg1_9 5 ?_
       refine yd hg1_14 3 ?_
       refine yd hg1_17 5 ?_
       refine ye [2] ?_
       exact hl3 _ (zi h).symm
      ·refine yx hn 3 ?_
       refine yd hg1_2 7 ?_
       refine yd hg1_9 5 ?_
       refine yd hg1_14 3 ?_
       refine yd hg1_17 5 ?_
       refine ye [2] ?_
       exact hl3 _ (zi h).symm
    ·refine cond_some h (fun hg1_17 h => ?_) (fun hg1_17 h => ?_)
     ·refine yx hn 3 ?_
      refine yd hg1_2 7 ?_
      refine yd hg1_9 8 ?_
      refine yd hg1_17 5 ?_
      refine ye [2] ?_
      exact hl3 _ (zi h).symm
     ·refine yx hn 3 ?_
      refine yd hg1_2 7 ?_
      refine yd hg1_9 8 ?_
      refine yd hg1_17 5 ?_
      refine ye [2] ?_
      exact hl3 _ (zi h).symm
theorem ok_strings_IndexByte (s:ByteArray) (c r:Int) (h:Sh.strings_IndexByte s c=some r):FnOK Tryz.prog 139 [.v (.string s), .v (.int .u8 c)] (.v (.int .i64 r)):=lib_strings_IndexByte Tryz.strings_IndexByte s c r h
theorem ok_path_atom_1 (c:Int) (r:Bool) (h:Sh.path_atom_1 c=some r):FnOK Tryz.prog 137 [.v (.int .u8 c)] (.v (.bool r)):=by
  unfold Sh.path_atom_1 at h
  refine yO 10 func137 fun g0 hn hio => ?_
  refine yyy hn 1 [0] ?_
  refine ht_seq ?_
  refine ht_joinS h (fun (s3:Bool)=>[(2,vb s3)]) ?_ ?_
  ·rintro s3 h
   refine pt_then (ht_ret ?_)
   obtain rfl:=zi h
   exact pt_ret hio rfl (.tmp _ _ .nil) rfl rfl
  ·intro u4 h hl5 hr6
   obtain ⟨v1, hv1, h⟩:=zn h
   refine cond_some h (fun hg1_2 h => ?_) (fun hg1_2 h => ?_)
   ·refine yx hn 1 ?_
    refine ys 1 ⟨lk call138 (ok_path_alphanumeric _ _ hv1)⟩ ?_
    refine yd hg1_2 5 ?_
    refine ye [2] ?_
    exact hl5 _ (zi h).symm
   ·obtain ⟨v2, hv2, h⟩:=zn h
    refine yx hn 1 ?_
    refine ys 1 ⟨lk call138 (ok_path_alphanumeric _ _ hv1)⟩ ?_
    refine yd hg1_2 1 ?_
    refine ys 3 ⟨lk call139 (ok_strings_IndexByte _ _ _ hv2)⟩ ?_
    refine ye [2] ?_
    exact hl5 _ (zi h).symm
theorem ok_path_all_of_path_atom_1 (s:ByteArray) (r:Bool) (h:Sh.path_all_of_path_atom_1 s=some r):FnOK Tryz.prog 136 [.v (.string s), .v (.func (.func 137) #[] #[])] (.v (.bool r)):=by
  unfold Sh.path_all_of_path_atom_1 at h
  refine yO 18 func136 fun g0 hn hio => ?_
  refine yyy hn 1 [0,1] ?_
  refine ht_seq ?_
  refine yyy hn 3 [0,1,7,8] ?_
  refine ht_loopS h (fun (s9:Int)=>[(0,vs s),(1,.v (.func (.func 137) #[] #[])),(7,vi (s.size:Int)),(8,vi s9)]) (fun (():Unit)=>[]) ?_ ?_
  ·rintro ⟨⟩ h
   refine pt_then ?_
   refine yyy hn 1 [4] ?_
   refine ht_ret ?_
   obtain rfl:=zi h
   exact pt_ret hio rfl (.tmp _ _ .nil) rfl rfl
  ·rintro u12 hl13 hr14 s9 rr17 h ho15
   refine yyy hn 1 [0,1,7,8,9] ?_
   refine ht_seq ?_
   refine ht_cond _ rfl (fun hb18 => ?_) (fun hb18 => ?_)
   ·have h:=cond_t hb18 h
    refine ht_skip ?_
    refine pt_then (ht_seq ?_)
    refine ht_block ?_
    refine yyy hn 2 [0,1,7,8,5] ?_
    refine ht_seq ?_
    obtain ⟨v2, hv2, h⟩:=zn h
    obtain ⟨v3, hv3, h⟩:=zn h
    refine yx hn 3 ?_
    refine ys 0 ⟨lh hv2⟩ ?_
    refine ys 1 ⟨lk call137 (ok_path_atom_1 _ _ hv3)⟩ ?_
    refine yee [0,1,7,8,16] ?_
    refine ht_cond _ rfl (fun hb19 => ?_) (fun hb19 => ?_)
    ·have h:=cond_t hb19 h
     refine yyy hn 1 [4] ?_
     refine ht_ret ?_
     refine pt_r_in ?_
     refine pt_r_then ?_
     refine pt_r_then ?_
     refine pt_r_in ?_
     refine pt_r_then ?_
     have h:=hr14 _ (ho15 _ (zi h).symm).symm
     obtain rfl:=zi h
     exact pt_ret hio rfl (.tmp _ _ .nil) rfl rfl
    ·have h:=cond_f hb19 h
     refine ht_skip ?_
     refine pt_inb ?_
     refine pt_then ?_
     obtain ⟨v5, hv5, h⟩:=zn h
     refine yx hn 0 ?_
     refine ys 0 ⟨lb hv5⟩ ?_
     refine yw [8] 1 ?_
     refine ye [0,1,7,8] ?_
     exact pt_next _ (zi h).symm rfl
   ·have h:=cond_f hb18 h
    refine ht_exit ?_
    refine pt_x_then ?_
    refine pt_x_then ?_
    refine pt_x_in ?_
    refine pt_pick [] (by kernel_rfl) (es':=[]) rfl ?_
    exact hl13 _ (ho15 _ (zi h).symm).symm
theorem ok_path_atom (s:ByteArray) (r:Bool) (h:Sh.path_atom s=some r):FnOK Tryz.prog 109 [.v (.string s)] (.v (.bool r)):=by
  unfold Sh.path_atom at h
  refine yO 9 func109 fun g0 hn hio => ?_
  refine yyy hn 1 [0] ?_
  refine ht_seq ?_
  refine ht_joinS h (fun (s2:Bool)=>[(2,vb s2)]) ?_ ?_
  ·rintro s2 h
   refine pt_then (ht_ret ?_)
   obtain rfl:=zi h
   exact pt_ret hio rfl (.tmp _ _ .nil) rfl rfl
  ·intro u3 h hl4 hr5
   refine cond_some h (fun hg1_2 h => ?_) (fun hg1_2 h => ?_)
   ·obtain ⟨v1, hv1, h⟩:=zn h
    refine yx hn 3 ?_
    refine yd hg1_2 1 ?_
    refine ys 2 ⟨lk call136 (ok_path_all_of_path_atom_1 _ _ hv1)⟩ ?_
    refine ye [2] ?_
    exact hl4 _ (zi h).symm
   ·refine yx hn 3 ?_
    refine yd hg1_2 4 ?_
    refine ye [2] ?_
    exact hl4 _ (zi h).symm
theorem ok_path_dotted_of_path_atom (mx:Int) (s:ByteArray) (r:Bool) (h:Sh.path_dotted_of_path_atom s=some r):FnG Tryz.prog (GL mx) 108 [.v (.string s), .v (.func (.func 109) #[] #[])] (.v (.bool r)):=by
  unfold Sh.path_dotted_of_path_atom at h
  refine yG 13 func108 fun g0 hn hio => ?_
  refine yxx hn 1 ?_
  refine yS (.box 4 [vb false]) 0 ⟨oA (op_alloc _ _ zr4)⟩ ?_
  refine yee [0,13,3,4] ?_
  refine ht_seq ?_
  refine ht_seq ?_
  obtain ⟨v1, hv1, h⟩:=zn h
  refine yx hn 1 ?_
  refine yk [] [6] ?_
  refine yt (7,.cloB 161 [.box 9 [vs v1.1],.box 9 [vs v1.2.1],.box 3 [vi v1.2.2]]) 0 ⟨op_callS _ _ 135 _ _ rfl call135 rfl rfl (ok_strings_SplitSeq s (⟨#[46]⟩:ByteArray) _ hv1) rfl⟩ ?_
  refine yee [13,3,4,7] ?_
  refine ht_block ?_
  refine ht_pick [3,0,1,2] (by kernel_rfl) (es':=[(7,.cloB 161 [.box 9 [vs v1.1],.box 9 [vs v1.2.1],.box 3 [vi v1.2.2]]),(13,.glob (GL mx)),(3,.box 125 [.v (.func (.func 109) #[] #[])]),(4,.box 4 [vb false])]) rfl ?_
  refine ht_rangeF h 161 7 8 14 _ [13, 3, 4] call161 (fun (():Unit)=>[(13, .glob (GL mx)), (3, .box 125 [.v (.func (.func 109) #[] #[])]), (4, .box 4 [.v (.bool false)])]) (fun (():Unit)=>[(13, .glob (GL mx)), (3, .box 125 [.v (.func (.func 109) #[] #[])]), (4, .box 4 [.v (.bool false)])]) (fun l J Y hY t t' h=>ok_strings_splitSeq_1 mx l J Y hY v1.1 v1.2.1 v1.2.2 t t' h) hn rfl (fun _=>rfl) (fun _=>rfl) (fun _=>rfl) rfl rfl (fun _=>⟨rfl, rfl⟩) rfl (glIn_look 13 rfl) ?_ ?_ ?_
  ·rintro kk g0 hn hio x ⟨⟩ u h
   refine ht_es (es':=[(8,vs x),(13,.glob (GL mx)),(3,.box 125 [.v (.func (.func 109) #[] #[])]),(4,.box 4 [vb false]),(13,.v (kk.tm.getD 13 undef)),(3,.v (kk.tm.getD 3 undef)),(4,.v (kk.tm.getD 4 undef)),(14,.inv kk.ready)]) rfl ?_
   refine yy hn 1 [13,3,4,14,5,13,3,4] ?_
   refine pt_pick [0,1,2,4,5,6,7,3] (by kernel_rfl) (es':=[(13,.glob (GL mx)),(3,.box 125 [.v (.func (.func 109) #[] #[])]),(4,.box 4 [vb false]),(5,vs x),(13,.v (kk.tm.getD 13 undef)),(3,.v (kk.tm.getD 3 undef)),(4,.v (kk.tm.getD 4 undef)),(14,.inv kk.ready)]) rfl ?_
   refine pt_begin (es:=[(13,.glob (GL mx)),(3,.box 125 [.v (.func (.func 109) #[] #[])]),(4,.box 4 [vb false]),(5,vs x),(13,.v (kk.tm.getD 13 undef)),(3,.v (kk.tm.getD 3 undef)),(4,.v (kk.tm.getD 4 undef))]) 14 rfl ?_
   refine ht_block ?_
   refine ht_seq ?_
   obtain ⟨v2, hv2, h⟩:=zn h
   refine yx hn 2 ?_
   refine ys 1 ⟨lk call109 (ok_path_atom _ _ hv2)⟩ ?_
   refine yee [13,3,4,14,12,13,3,4] ?_
   refine ht_cond _ rfl (fun hb5 => ?_) (fun hb5 => ?_)
   ·have h:=cond_t hb5 h
    refine yyy hn 1 [13,3,4,14,13,3,4] ?_
    refine ht_ret ?_
    refine pt_r_in ?_
    refine pt_pick [0,1,2,4,5,6,3] (by kernel_rfl) (es':=[(_,_),(_,_),(_,_),(_,_),(_,_),(_,_),(_,_)]) rfl ?_
    obtain rfl:=zi h
    exact pt_rret 14 [13, 3, 4] _ rfl rfl (by kernel_rfl)
   ·have h:=cond_f hb5 h
    refine ht_skip ?_
    refine pt_inb ?_
    refine pt_pick [0,1,2,5,6,7,3] (by kernel_rfl) (es':=[(_,_),(_,_),(_,_),(_,_),(_,_),(_,_),(_,_)]) rfl ?_
    obtain rfl:=zi h
    exact pt_rnext 14 [13, 3, 4] _ rfl rfl (by kernel_rfl)
  ·rintro D ⟨⟩ h
   refine pt_inb ?_
   refine pt_then ?_
   refine yyy hn 1 [13,4] ?_
   refine ht_ret ?_
   refine pt_pick [1] (by kernel_rfl) (es':=[(_,_)]) rfl ?_
   obtain rfl:=zi h
   exact pt_ret hio rfl (.cell1 _ _ _ _ underlying4 rfl .nil) rfl rfl
  ·rintro D ⟨⟩ h
   refine pt_pick [2] (by kernel_rfl) (es':=[(_,_)]) rfl ?_
   refine pt_r_in ?_
   refine pt_r_then ?_
   obtain rfl:=zi h
   exact pt_ret hio rfl (.cell1 _ _ _ _ underlying4 rfl .nil) rfl rfl
theorem ok_path_local (mx:Int) (s:ByteArray) (r:Bool) (h:Sh.path_local s=some r):FnG Tryz.prog (GL mx) 87 [.v (.string s)] (.v (.bool r)):=by
  unfold Sh.path_local at h
  refine yG 10 func87 fun g0 hn hio => ?_
  refine yyy hn 1 [0,10] ?_
  refine ht_seq ?_
  refine ht_joinS h (fun (s2:Bool)=>[(10,.glob (GL mx)),(2,vb s2)]) ?_ ?_
  ·rintro s2 h
   refine pt_then (ht_ret ?_)
   refine pt_pick [1] (by kernel_rfl) (es':=[(_,_)]) rfl ?_
   obtain rfl:=zi h
   exact pt_ret hio rfl (.tmp _ _ .nil) rfl rfl
  ·intro u3 h hl4 hr5
   refine cond_some h (fun hg1_3 h => ?_) (fun hg1_3 h => ?_)
   ·obtain ⟨v1, hv1, h⟩:=zn h
    refine yx hn 4 ?_
    refine yd hg1_3 1 ?_
    refine ys 2 ⟨lg call108 (ok_path_dotted_of_path_atom _ _ _ hv1) 10⟩ ?_
    refine ye [10,2] ?_
    exact hl4 _ (zi h).symm
   ·refine yx hn 4 ?_
    refine yd hg1_3 4 ?_
    refine ye [10,2] ?_
    exact hl4 _ (zi h).symm
theorem ok_path_label_1 (c:Int) (r:Bool) (h:Sh.path_label_1 c=some r):FnOK Tryz.prog 140 [.v (.int .u8 c)] (.v (.bool r)):=by
  unfold Sh.path_label_1 at h
  refine yO 9 func140 fun g0 hn hio => ?_
  refine yyy hn 1 [0] ?_
  refine ht_seq ?_
  refine ht_joinS h (fun (s2:Bool)=>[(2,vb s2)]) ?_ ?_
  ·rintro s2 h
   refine pt_then (ht_ret ?_)
   obtain rfl:=zi h
   exact pt_ret hio rfl (.tmp _ _ .nil) rfl rfl
  ·intro u3 h hl4 hr5
   obtain ⟨v1, hv1, h⟩:=zn h
   refine cond_some h (fun hg1_2 h => ?_) (fun hg1_2 h => ?_)
   ·refine yx hn 1 ?_
    refine ys 1 ⟨lk call138 (ok_path_alphanumeric _ _ hv1)⟩ ?_
    refine yd hg1_2 4 ?_
    refine ye [2] ?_
    exact hl4 _ (zi h).symm
   ·refine yx hn 1 ?_
    refine ys 1 ⟨lk call138 (ok_path_alphanumeric _ _ hv1)⟩ ?_
    refine yd hg1_2 4 ?_
    refine ye [2] ?_
    exact hl4 _ (zi h).symm
theorem ok_path_all_of_path_label_1 (s:ByteArray) (r:Bool) (h:Sh.path_all_of_path_label_1 s=some r):FnOK Tryz.prog 136 [.v (.string s), .v (.func (.func 140) #[] #[])] (.v (.bool r)):=by
  unfold Sh.path_all_of_path_label_1 at h
  refine yO 18 func136 fun g0 hn hio => ?_
  refine yyy hn 1 [0,1] ?_
  refine ht_seq ?_
  refine yyy hn 3 [0,1,7,8] ?_
  refine ht_loopS h (fun (s9:Int)=>[(0,vs s),(1,.v (.func (.func 140) #[] #[])),(7,vi (s.size:Int)),(8,vi s9)]) (fun (():Unit)=>[]) ?_ ?_
  ·rintro ⟨⟩ h
   refine pt_then ?_
   refine yyy hn 1 [4] ?_
   refine ht_ret ?_
   obtain rfl:=zi h
   exact pt_ret hio rfl (.tmp _ _ .nil) rfl rfl
  ·rintro u12 hl13 hr14 s9 rr17 h ho15
   refine yyy hn 1 [0,1,7,8,9] ?_
   refine ht_seq ?_
   refine ht_cond _ rfl (fun hb18 => ?_) (fun hb18 => ?_)
   ·have h:=cond_t hb18 h
    refine ht_skip ?_
    refine pt_then (ht_seq ?_)
    refine ht_block ?_
    refine yyy hn 2 [0,1,7,8,5] ?_
    refine ht_seq ?_
    obtain ⟨v2, hv2, h⟩:=zn h
    obtain ⟨v3, hv3, h⟩:=zn h
    refine yx hn 3 ?_
    refine ys 0 ⟨lh hv2⟩ ?_
    refine ys 1 ⟨lk call140 (ok_path_label_1 _ _ hv3)⟩ ?_
    refine yee [0,1,7,8,16] ?_
    refine ht_cond _ rfl (fun hb19 => ?_) (fun hb19 => ?_)
    ·have h:=cond_t hb19 h
     refine yyy hn 1 [4] ?_
     refine ht_ret ?_
     refine pt_r_in ?_
     refine pt_r_then ?_
     refine pt_r_then ?_
     refine pt_r_in ?_
     refine pt_r_then ?_
     have h:=hr14 _ (ho15 _ (zi h).symm).symm
     obtain rfl:=zi h
     exact pt_ret hio rfl (.tmp _ _ .nil) rfl rfl
    ·have h:=cond_f hb19 h
     refine ht_skip ?_
     refine pt_inb ?_
     refine pt_then ?_
     obtain ⟨v5, hv5, h⟩:=zn h
     refine yx hn 0 ?_
     refine ys 0 ⟨lb hv5⟩ ?_
     refine yw [8] 1 ?_
     refine ye [0,1,7,8] ?_
     exact pt_next _ (zi h).symm rfl
   ·have h:=cond_f hb18 h
    refine ht_exit ?_
    refine pt_x_then ?_
    refine pt_x_then ?_
    refine pt_x_in ?_
    refine pt_pick [] (by kernel_rfl) (es':=[]) rfl ?_
    exact hl13 _ (ho15 _ (zi h).symm).symm
theorem ok_path_label (s:ByteArray) (r:Bool) (h:Sh.path_label s=some r):FnOK Tryz.prog 110 [.v (.string s)] (.v (.bool r)):=by
  unfold Sh.path_label at h
  refine yO 27 func110 fun g0 hn hio => ?_
  refine yyy hn 1 [0] ?_
  refine ht_seq ?_
  refine ht_joinS h (fun (s5:Bool)=>[(2,vb s5)]) ?_ ?_
  ·rintro s5 h
   refine pt_then (ht_ret ?_)
   obtain rfl:=zi h
   exact pt_ret hio rfl (.tmp _ _ .nil) rfl rfl
  ·intro u6 h hl7 hr8
   refine cond_some h (fun hg1_2 h => ?_) (fun hg1_2 h => ?_)
   ·refine cond_some h (fun hg1_7 h => ?_) (fun hg1_7 h => ?_)
    ·obtain ⟨v1, hv1, h⟩:=zn h
     refine cond_some h (fun hg1_12 h => ?_) (fun hg1_12 h => ?_)
     ·obtain ⟨v2, hv2, h⟩:=zn h
      obtain ⟨v3, hv3, h⟩:=zn h
      refine cond_some h (fun hg1_20 h => ?_) (fun hg1_20 h => ?_)
      ·obtain ⟨v4, hv4, h⟩:=zn h
       refine yx hn 3 ?_
       refine yd hg1_2 5 ?_
       refine yd hg1_7 1 ?_
       refine ys 3 ⟨lh hv1⟩ ?_
       refine yd hg1_12 3 ?_
       refine ys 0 ⟨lb hv2⟩ ?_
       refine ys 3 ⟨lh hv3⟩ ?_
       refine yd hg1_20 1 ?_
       refine ys 2 ⟨lk call136 (ok_path_all_of_path_label_1 _ _ hv4)⟩ ?_
       refine ye [2] ?_
       exact hl7 _ (zi h).symm
      ·refine yx hn 3 ?_
       refine yd hg1_2 5 ?_
       refine yd hg1_7 1 ?_
       refine ys 3 ⟨lh hv1⟩ ?_
       refine yd hg1_12 3 ?_
       refine ys 0 ⟨lb hv2⟩ ?_
       refine ys 3 ⟨lh hv3⟩ ?_
       refine yd hg1_20 4 ?_
       refine ye [2] ?_
       exact hl7 _ (zi h).symm
     ·refine yx hn 3 ?_
      refine yd hg1_2 5 ?_
      refine yd hg1_7 1 ?_
      refine ys 3 ⟨lh hv1⟩ ?_
      refine yd hg1_12 12 ?_
      refine ye [2] ?_
      exact hl7 _ (zi h).symm
    ·refine yx hn 3 ?_
     refine yd hg1_2 5 ?_
     refine yd hg1_7 17 ?_
     refine ye [2] ?_
     exact hl7 _ (zi h).symm
   ·refine yx hn 3 ?_
    refine yd hg1_2 22 ?_
    refine ye [2] ?_
    exact hl7 _ (zi h).symm
theorem ok_path_dotted_of_path_label (mx:Int) (s:ByteArray) (r:Bool) (h:Sh.path_dotted_of_path_label s=some r):FnG Tryz.prog (GL mx) 108 [.v (.string s), .v (.func (.func 110) #[] #[])] (.v (.bool r)):=by
  unfold Sh.path_dotted_of_path_label at h
  refine yG 13 func108 fun g0 hn hio => ?_
  refine yxx hn 1 ?_
  refine yS (.box 4 [vb false]) 0 ⟨oA (op_alloc _ _ zr4)⟩ ?_
  refine yee [0,13,3,4] ?_
  refine ht_seq ?_
  refine ht_seq ?_
  obtain ⟨v1, hv1, h⟩:=zn h
  refine yx hn 1 ?_
  refine yk [] [6] ?_
  refine yt (7,.cloB 161 [.box 9 [vs v1.1],.box 9 [vs v1.2.1],.box 3 [vi v1.2.2]]) 0 ⟨op_callS _ _ 135 _ _ rfl call135 rfl rfl (ok_strings_SplitSeq s (⟨#[46]⟩:ByteArray) _ hv1) rfl⟩ ?_
  refine yee [13,3,4,7] ?_
  refine ht_block ?_
  refine ht_pick [3,0,1,2] (by kernel_rfl) (es':=[(7,.cloB 161 [.box 9 [vs v1.1],.box 9 [vs v1.2.1],.box 3 [vi v1.2.2]]),(13,.glob (GL mx)),(3,.box 125 [.v (.func (.func 110) #[] #[])]),(4,.box 4 [vb false])]) rfl ?_
  refine ht_rangeF h 161 7 8 14 _ [13, 3, 4] call161 (fun (():Unit)=>[(13, .glob (GL mx)), (3, .box 125 [.v (.func (.func 110) #[] #[])]), (4, .box 4 [.v (.bool false)])]) (fun (():Unit)=>[(13, .glob (GL mx)), (3, .box 125 [.v (.func (.func 110) #[] #[])]), (4, .box 4 [.v (.bool false)])]) (fun l J Y hY t t' h=>ok_strings_splitSeq_1 mx l J Y hY v1.1 v1.2.1 v1.2.2 t t' h) hn rfl (fun _=>rfl) (fun _=>rfl) (fun _=>rfl) rfl rfl (fun _=>⟨rfl, rfl⟩) rfl (glIn_look 13 rfl) ?_ ?_ ?_
  ·rintro kk g0 hn hio x ⟨⟩ u h
   refine ht_es (es':=[(8,vs x),(13,.glob (GL mx)),(3,.box 125 [.v (.func (.func 110) #[] #[])]),(4,.box 4 [vb false]),(13,.v (kk.tm.getD 13 undef)),(3,.v (kk.tm.getD 3 undef)),(4,.v (kk.tm.getD 4 undef)),(14,.inv kk.ready)]) rfl ?_
   refine yy hn 1 [13,3,4,14,5,13,3,4] ?_
   refine pt_pick [0,1,2,4,5,6,7,3] (by kernel_rfl) (es':=[(13,.glob (GL mx)),(3,.box 125 [.v (.func (.func 110) #[] #[])]),(4,.box 4 [vb false]),(5,vs x),(13,.v (kk.tm.getD 13 undef)),(3,.v (kk.tm.getD 3 undef)),(4,.v (kk.tm.getD 4 undef)),(14,.inv kk.ready)]) rfl ?_
   refine pt_begin (es:=[(13,.glob (GL mx)),(3,.box 125 [.v (.func (.func 110) #[] #[])]),(4,.box 4 [vb false]),(5,vs x),(13,.v (kk.tm.getD 13 undef)),(3,.v (kk.tm.getD 3 undef)),(4,.v (kk.tm.getD 4 undef))]) 14 rfl ?_
   refine ht_block ?_
   refine ht_seq ?_
   obtain ⟨v2, hv2, h⟩:=zn h
   refine yx hn 2 ?_
   refine ys 1 ⟨lk call110 (ok_path_label _ _ hv2)⟩ ?_
   refine yee [13,3,4,14,12,13,3,4] ?_
   refine ht_cond _ rfl (fun hb5 => ?_) (fun hb5 => ?_)
   ·have h:=cond_t hb5 h
    refine yyy hn 1 [13,3,4,14,13,3,4] ?_
    refine ht_ret ?_
    refine pt_r_in ?_
    refine pt_pick [0,1,2,4,5,6,3] (by kernel_rfl) (es':=[(_,_),(_,_),(_,_),(_,_),(_,_),(_,_),(_,_)]) rfl ?_
    obtain rfl:=zi h
    exact pt_rret 14 [13, 3, 4] _ rfl rfl (by kernel_rfl)
   ·have h:=cond_f hb5 h
    refine ht_skip ?_
    refine pt_inb ?_
    refine pt_pick [0,1,2,5,6,7,3] (by kernel_rfl) (es':=[(_,_),(_,_),(_,_),(_,_),(_,_),(_,_),(_,_)]) rfl ?_
    obtain rfl:=zi h
    exact pt_rnext 14 [13, 3, 4] _ rfl rfl (by kernel_rfl)
  ·rintro D ⟨⟩ h
   refine pt_inb ?_
   refine pt_then ?_
   refine yyy hn 1 [13,4] ?_
   refine ht_ret ?_
   refine pt_pick [1] (by kernel_rfl) (es':=[(_,_)]) rfl ?_
   obtain rfl:=zi h
   exact pt_ret hio rfl (.cell1 _ _ _ _ underlying4 rfl .nil) rfl rfl
  ·rintro D ⟨⟩ h
   refine pt_pick [2] (by kernel_rfl) (es':=[(_,_)]) rfl ?_
   refine pt_r_in ?_
   refine pt_r_then ?_
   obtain rfl:=zi h
   exact pt_ret hio rfl (.cell1 _ _ _ _ underlying4 rfl .nil) rfl rfl
theorem ok_path_Domain (mx:Int) (s:ByteArray) (r:Bool) (h:Sh.path_Domain s=some r):FnG Tryz.prog (GL mx) 88 [.v (.string s)] (.v (.bool r)):=by
  unfold Sh.path_Domain at h
  refine yG 10 func88 fun g0 hn hio => ?_
  refine yyy hn 1 [0,10] ?_
  refine ht_seq ?_
  refine ht_joinS h (fun (s2:Bool)=>[(10,.glob (GL mx)),(2,vb s2)]) ?_ ?_
  ·rintro s2 h
   refine pt_then (ht_ret ?_)
   refine pt_pick [1] (by kernel_rfl) (es':=[(_,_)]) rfl ?_
   obtain rfl:=zi h
   exact pt_ret hio rfl (.tmp _ _ .nil) rfl rfl
  ·intro u3 h hl4 hr5
   refine cond_some h (fun hg1_3 h => ?_) (fun hg1_3 h => ?_)
   ·obtain ⟨v1, hv1, h⟩:=zn h
    refine yx hn 4 ?_
    refine yd hg1_3 1 ?_
    refine ys 2 ⟨lg call108 (ok_path_dotted_of_path_label _ _ _ hv1) 10⟩ ?_
    refine ye [10,2] ?_
    exact hl4 _ (zi h).symm
   ·refine yx hn 4 ?_
    refine yd hg1_3 4 ?_
    refine ye [10,2] ?_
    exact hl4 _ (zi h).symm
theorem ok_path_Check (mx:Int) (p:T_Path) (r:Int) (h:Sh.path_Check p=some r):FnG Tryz.prog (GL mx) 68 [.agg [.v (.bool p.Null), .v (.string p.Local), .v (.string p.Domain)]] (.v (.int .i64 r)):=by
  unfold Sh.path_Check at h
  refine yG 27 func68 fun g0 hn hio => ?_
  refine yyy hn 2 [27,1] ?_
  refine yxx hn 1 ?_
  refine yS (.agg [vb true,vs z0,vs z0]) 0 ⟨op_build _ _ _ _ [1,1,1] _ _ underlying43 zr43 (fs43 _ underlying43) (.copy _ Src.nil) rfl rfl rfl⟩ ?_
  refine yS (vb ((p.Null==true)&&((p.Local.toList==z0.toList)&&((p.Domain.toList==z0.toList)&&true)))) 1 ⟨op_eq_st _ _ [.bool p.Null,.string p.Local,.string p.Domain] [.bool true,.string z0,.string z0] (((p.Null==true)&&((p.Local.toList==z0.toList)&&((p.Domain.toList==z0.toList)&&true)))) _ false (by kernel_rfl) (by kernel_rfl) (by kernel_rfl) (by kernel_rfl) (by kernel_rfl) rfl rfl rfl rfl (by kernel_rfl) rfl⟩ ?_
  refine yee [27,1,3] ?_
  refine ht_seq ?_
  refine ht_joinS h (fun (s3:Bool)=>[(27,.glob (GL mx)),(3,vb ((p.Null==true)&&((p.Local.toList==z0.toList)&&((p.Domain.toList==z0.toList)&&true)))),(4,vb s3)]) ?_ ?_
  ·rintro s3 h
   refine pt_then (ht_seq ?_)
   refine ht_seq ?_
   refine ht_joinS h (fun (s7:Bool)=>[(27,.glob (GL mx)),(26,vb s7)]) ?_ ?_
   ·rintro s7 h
    refine pt_then ?_
    refine ht_cond _ rfl (fun hb11 => ?_) (fun hb11 => ?_)
    ·have h:=cond_t hb11 h
     refine yyy hn 1 [27,2] ?_
     refine ht_ret ?_
     refine pt_pick [1] (by kernel_rfl) (es':=[(_,_)]) rfl ?_
     refine pt_r_then ?_
     obtain rfl:=zi h
     exact pt_ret hio rfl (.tmp _ _ .nil) rfl rfl
    ·have h:=cond_f hb11 h
     refine ht_skip ?_
     refine pt_then ?_
     refine yyy hn 1 [27,2] ?_
     refine ht_ret ?_
     refine pt_pick [1] (by kernel_rfl) (es':=[(_,_)]) rfl ?_
     obtain rfl:=zi h
     exact pt_ret hio rfl (.tmp _ _ .nil) rfl rfl
   ·intro u8 h hl9 hr10
    refine cond_some h (fun hg3_2 h => ?_) (fun hg3_2 h => ?_)
    ·refine yx hn 3 ?_
     refine yd hg3_2 3 ?_
     refine ye [27,26] ?_
     exact hl9 _ (zi h).symm
    ·refine yx hn 3 ?_
     refine yd hg3_2 3 ?_
     refine ye [27,26] ?_
     exact hl9 _ (zi h).symm
  ·intro u4 h hl5 hr6
   refine cond_some h (fun hg2_3 h => ?_) (fun hg2_3 h => ?_)
   ·obtain ⟨v1, hv1, h⟩:=zn h
    refine cond_some h (fun hg2_8 h => ?_) (fun hg2_8 h => ?_)
    ·obtain ⟨v2, hv2, h⟩:=zn h
     refine yx hn 4 ?_
     refine yd hg2_3 2 ?_
     refine ys 2 ⟨lg call87 (ok_path_local _ _ _ hv1) 27⟩ ?_
     refine yd hg2_8 2 ?_
     refine ys 2 ⟨lg call88 (ok_path_Domain _ _ _ hv2) 27⟩ ?_
     refine ye [27,3,4] ?_
     exact hl5 _ (zi h).symm
    ·refine yx hn 4 ?_
     refine yd hg2_3 2 ?_
     refine ys 2 ⟨lg call87 (ok_path_local _ _ _ hv1) 27⟩ ?_
     refine yd hg2_8 5 ?_
     refine ye [27,3,4] ?_
     exact hl5 _ (zi h).symm
   ·refine yx hn 4 ?_
    refine yd hg2_3 10 ?_
    refine ye [27,3,4] ?_
    exact hl5 _ (zi h).symm
theorem ok_envelope_Valid (mx:Int) (m:T_Mail) (r:Bool) (h:Sh.envelope_Valid m=some r):FnG Tryz.prog (GL mx) 64 [.agg [.v (.bool m.From.Null), .v (.string m.From.Local), .v (.string m.From.Domain), .fl .shr 3 (flatten (map T_Path.enc m.To)), .fl .shr 1 (map (int .u8) m.Body), .v (.bool m.Quiet), .v (.string m.Helo), .v (.int .i64 m.At)]] (.v (.bool r)):=by
  unfold Sh.envelope_Valid at h
  refine yG 36 func64 fun g0 hn hio => ?_
  refine yyy hn 2 [36,1] ?_
  refine ht_seq ?_
  refine ht_seq ?_
  refine ht_joinS h (fun (s2:Bool)=>[(36,.glob (GL mx)),(1,.box 46 (T_Mail.c m [])),(20,vb s2)]) ?_ ?_
  ·rintro s2 h
   refine pt_then ?_
   refine ht_cond _ rfl (fun hb6 => ?_) (fun hb6 => ?_)
   ·have h:=cond_t hb6 h
    refine yyy hn 1 [36,2] ?_
    refine ht_ret ?_
    refine pt_pick [1] (by kernel_rfl) (es':=[(_,_)]) rfl ?_
    refine pt_r_then ?_
    obtain rfl:=zi h
    exact pt_ret hio rfl (.tmp _ _ .nil) rfl rfl
   ·have h:=cond_f hb6 h
    refine ht_skip ?_
    refine pt_then (ht_seq ?_)
    refine yyy hn 4 [36,22,23,24] ?_
    refine ht_loopS h (fun (s24:Int)=>[(36,.glob (GL mx)),(22,.fl .shr 3 (flatten (map T_Path.enc m.To))),(23,vi (m.To.length:Int)),(24,vi s24)]) (fun (():Unit)=>[(36,.glob (GL mx))]) ?_ ?_
    ·rintro ⟨⟩ h
     refine pt_then ?_
     refine yyy hn 1 [36,2] ?_
     refine ht_ret ?_
     refine pt_pick [1] (by kernel_rfl) (es':=[(_,_)]) rfl ?_
     obtain rfl:=zi h
     exact pt_ret hio rfl (.tmp _ _ .nil) rfl rfl
    ·rintro u31 hl32 hr33 s24 rr36 h ho34
     refine yyy hn 1 [36,22,23,24,25] ?_
     refine ht_seq ?_
     refine ht_cond _ rfl (fun hb37 => ?_) (fun hb37 => ?_)
     ·have h:=cond_t hb37 h
      refine ht_skip ?_
      refine pt_then (ht_seq ?_)
      refine ht_block ?_
      refine ht_seq ?_
      obtain ⟨v8, hv8, h⟩:=zn h
      obtain ⟨v9, hv9, h⟩:=zn h
      refine yx hn 0 ?_
      refine ys 0 ⟨lj hv8⟩ ?_
      refine yS (.agg [vb v9.Null,vs v9.Local,vs v9.Domain]) 0 ⟨op_load_eA _ _ _ _ _ _ _ underlying43 rfl sz43 rfl rfl (flat_get T_Path.len hv9) rfl (by decide)⟩ ?_
      refine yS (.box 43 [vb false,vs z0,vs z0]) 1 ⟨oA (op_alloc _ _ zr43)⟩ ?_
      refine yee [36,22,23,24,4] ?_
      refine ht_seq ?_
      refine ht_joinS h (fun (s38:Bool)=>[(36,.glob (GL mx)),(22,.fl .shr 3 (flatten (map T_Path.enc m.To))),(23,vi (m.To.length:Int)),(24,vi s24),(34,vb s38)]) ?_ ?_
      ·rintro s38 h
       refine pt_then ?_
       refine ht_cond _ rfl (fun hb42 => ?_) (fun hb42 => ?_)
       ·have h:=cond_t hb42 h
        refine yyy hn 1 [36,2] ?_
        refine ht_ret ?_
        refine pt_pick [1] (by kernel_rfl) (es':=[(_,_)]) rfl ?_
        refine pt_r_in ?_
        refine pt_r_then ?_
        refine pt_r_then ?_
        refine pt_r_in ?_
        refine pt_r_then ?_
        have h:=hr33 _ (ho34 _ (zi h).symm).symm
        obtain rfl:=zi h
        exact pt_ret hio rfl (.tmp _ _ .nil) rfl rfl
       ·have h:=cond_f hb42 h
        refine ht_skip ?_
        refine pt_inb ?_
        refine pt_then ?_
        obtain ⟨v16, hv16, h⟩:=zn h
        refine yx hn 0 ?_
        refine ys 0 ⟨lb hv16⟩ ?_
        refine yw [24] 1 ?_
        refine ye [36,22,23,24] ?_
        exact pt_next _ (zi h).symm rfl
      ·intro u39 h hl40 hr41
       obtain ⟨v10, hv10, h⟩:=zn h
       refine cond_some h (fun hg6_3 h => ?_) (fun hg6_3 h => ?_)
       ·refine yx hn 1 ?_
        refine ys 2 ⟨lg call68 (ok_path_Check _ _ _ hv10) 36⟩ ?_
        refine yd hg6_3 3 ?_
        refine ye [36,22,23,24,34] ?_
        exact hl40 _ (zi h).symm
       ·refine yx hn 1 ?_
        refine ys 2 ⟨lg call68 (ok_path_Check _ _ _ hv10) 36⟩ ?_
        refine yd hg6_3 3 ?_
        refine ye [36,22,23,24,34] ?_
        exact hl40 _ (zi h).symm
     ·have h:=cond_f hb37 h
      refine ht_exit ?_
      refine pt_x_then ?_
      refine pt_x_then ?_
      refine pt_x_in ?_
      refine pt_pick [0] (by kernel_rfl) (es':=[(_,_)]) rfl ?_
      exact hl32 _ (ho34 _ (zi h).symm).symm
  ·intro u3 h hl4 hr5
   obtain ⟨v1, hv1, h⟩:=zn h
   refine cond_some h (fun hg1_4 h => ?_) (fun hg1_4 h => ?_)
   ·refine yx hn 2 ?_
    refine ys 2 ⟨lg call68 (ok_path_Check _ _ _ hv1) 36⟩ ?_
    refine yd hg1_4 11 ?_
    refine ye [36,1,20] ?_
    exact hl4 _ (zi h).symm
   ·refine cond_some h (fun hg1_10 h => ?_) (fun hg1_10 h => ?_)
    ·refine yx hn 2 ?_
     refine ys 2 ⟨lg call68 (ok_path_Check _ _ _ hv1) 36⟩ ?_
     refine yd hg1_4 6 ?_
     refine yd hg1_10 5 ?_
     refine ye [36,1,20] ?_
     exact hl4 _ (zi h).symm
    ·refine yx hn 2 ?_
     refine ys 2 ⟨lg call68 (ok_path_Check _ _ _ hv1) 36⟩ ?_
     refine yd hg1_4 6 ?_
     refine yd hg1_10 5 ?_
     refine ye [36,1,20] ?_
     exact hl4 _ (zi h).symm
theorem ok_dots_lines (b:(List Int)) (r:(List Int)) (h:Sh.dots_lines b=some r):FnOK Tryz.prog 69 [.fl .shr 1 (map (int .u8) b)] (.cloB 89 [.box 25 [.fl .shr 1 (map (int .u8) r)]]):=by
  unfold Sh.dots_lines at h
  refine yO 4 func69 fun g0 hn hio => ?_
  refine yyy hn 2 [1] ?_
  refine yxx hn 0 ?_
  refine yk [1] [] ?_
  refine yt (3,.cloB 89 [.box 25 [fb b]]) 0 ⟨op_mkclo _ _ [1] [.box 25 [fb b]] rfl rfl rfl⟩ ?_
  refine ya 0 ?_
  refine yee [2] ?_
  refine ht_ret ?_
  obtain rfl:=zi h
  exact pt_ret hio rfl (.tmp _ _ .nil) rfl rfl
theorem ok_bytes_Index (mx:Int) (s sep:List Int) (r:Int) (h:Sh.bytes_Index s sep=some r):FnG Tryz.prog (GL mx) 56 [.fl .shr 1 (map (int .u8) s), .fl .shr 1 (map (int .u8) sep)] (.v (.int .i64 r)) :=
  lib_bytes_Index (gl_mem0 mx) Tryz.bytes_Index_at Tryz.bytes_Index_longer s sep r h
theorem ok_bytes_Cut_sh (mx:Int) (s:(List Int)) (sep:(List Int)) (r:((List Int)×(List Int)×Bool)) (h:Sh.bytes_Cut_sh s sep=some r):FnG Tryz.prog (GL mx) 34 [.fl .shr 1 (map (int .u8) s), .fl .shr 1 (map (int .u8) sep)] (.tup [.fl .shr 1 (map (int .u8) r.1), .fl .shr 1 (map (int .u8) r.2.1), .v (.bool r.2.2)]):=by
  unfold Sh.bytes_Cut_sh at h
  refine yG 23 func34 fun g0 hn hio => ?_
  refine yyy hn 3 [0,1,23] ?_
  refine ht_seq ?_
  refine ht_seq ?_
  obtain ⟨v1, hv1, h⟩:=zn h
  refine yx hn 2 ?_
  refine ys 1 ⟨lg call56 (ok_bytes_Index _ _ _ _ hv1) 23⟩ ?_
  refine yee [0,1,23,7] ?_
  refine yyy hn 2 [0,1,23,7,12] ?_
  refine ht_cond _ rfl (fun hb2 => ?_) (fun hb2 => ?_)
  ·have h:=cond_t hb2 h
   refine ht_seq ?_
   obtain ⟨v3, hv3, h⟩:=zn h
   obtain ⟨v4, hv4, h⟩:=zn h
   obtain ⟨v5, hv5, h⟩:=zn h
   refine wb [[0],[7]] ?_
   refine wN [13,14] ?_
   refine wS (fb v3) [[0],[7],[1],[18]] ⟨op_sl _ _ _ 0 v1 _ underlying25 sz5 rfl rfl rfl ⟨_,rfl⟩ hv3⟩ ?_
   refine wN [17,19] ?_
   refine wo [] ⟨lb hv4⟩ ?_
   refine wN [16,20] ?_
   refine wS (fb v5) [[15],[21],[]] ⟨op_sl _ _ _ v4 (s.length:Int) _ underlying25 sz5 rfl rfl ⟨_,rfl⟩ rfl hv5⟩ ?_
   refine wee hn [23,4,5,6] ?_
   refine ht_ret ?_
   refine pt_pick [1,2,3] (by kernel_rfl) (es':=[(_,_),(_,_),(_,_)]) rfl ?_
   refine pt_r_then ?_
   obtain rfl:=zi h
   exact pt_ret hio rfl (.tmp _ _ (.tmp _ _ (.tmp _ _ .nil))) rfl rfl
  ·have h:=cond_f hb2 h
   refine ht_skip ?_
   refine pt_then ?_
   refine yyy hn 4 [23,4,5,6] ?_
   refine ht_ret ?_
   refine pt_pick [1,2,3] (by kernel_rfl) (es':=[(_,_),(_,_),(_,_)]) rfl ?_
   refine pt_sub (fs:=[(4,fb s),(5,fb []),(6,vb false)]) (.same _ (.sub _ (sub_nil_shr 1) rfl (.same _ .nil))) ?_
   obtain rfl:=zi h
   exact pt_ret hio rfl (.tmp _ _ (.tmp _ _ (.tmp _ _ .nil))) rfl rfl
end Go.Proofs.YtglabbpbianmnaaGreatDoor
