/-
  The model's runs are what is told in Lean.
-/
import Derived.Test.YtglabbpbianmnaaGreatDoorProg
import Derived.KernelRfl
import Derived.Test.YtglabbpbianmnaaGreatDoorShelf
import Derived.Test.YtglabbpbianmnaaGreatDoorIdx
import Derived.Test.YtglabbpbianmnaaGreatDoorC1
import Derived.Test.YtglabbpbianmnaaGreatDoorOkc2
set_option linter.unusedVariables false
set_option linter.unusedSimpArgs false
set_option maxHeartbeats 1000000
namespace Go.Proofs.YtglabbpbianmnaaGreatDoor
open Go.Abs Go.Abs.Sh Tryz
open List (map flatten)
open Value (int)
theorem ok_strings_CutSuffix (s:ByteArray) (suffix:ByteArray) (r:(ByteArray×Bool)) (h:Sh.strings_CutSuffix s suffix=some r):FnOK Tryz.prog 126 [.v (.string s), .v (.string suffix)] (.tup [.v (.string r.1), .v (.bool r.2)]):=by
  unfold Sh.strings_CutSuffix at h
  refine yO 11 func126 fun g0 hn hio => ?_
  refine yyy hn 2 [0,1] ?_
  refine ht_seq ?_
  obtain ⟨v1, hv1, h⟩:=zn h
  refine yx hn 2 ?_
  refine ys 4 ⟨lk call150 (ok_internal_stringslite_CutSuffix _ _ _ hv1)⟩ ?_
  refine yee [4,5] ?_
  refine ht_ret ?_
  obtain rfl:=zi h
  exact pt_ret hio rfl (.tmp _ _ (.tmp _ _ .nil)) rfl rfl
theorem ok_internal_stringslite_Index (s sub:ByteArray) (r:Int) (h:Sh.strings_Index s sub=some r):FnOK Tryz.prog 119 [.v (.string s), .v (.string sub)] (.v (.int .i64 r)):=lib_strings_Index Tryz.stringslite_Index_one s sub r h
theorem ok_internal_stringslite_Cut (s:ByteArray) (sep:ByteArray) (r:(ByteArray×ByteArray×Bool)) (h:Sh.internal_stringslite_Cut s sep=some r):FnOK Tryz.prog 151 [.v (.string s), .v (.string sep)] (.tup [.v (.string r.1), .v (.string r.2.1), .v (.bool r.2.2)]):=by
  unfold Sh.internal_stringslite_Cut at h
  refine yO 23 func151 fun g0 hn hio => ?_
  refine yyy hn 3 [0,1] ?_
  refine ht_seq ?_
  refine ht_seq ?_
  obtain ⟨v1, hv1, h⟩:=zn h
  refine yx hn 2 ?_
  refine ys 1 ⟨lk call119 (ok_internal_stringslite_Index _ _ _ hv1)⟩ ?_
  refine yee [0,1,7] ?_
  refine yyy hn 2 [0,1,7,12] ?_
  refine ht_cond _ rfl (fun hb2 => ?_) (fun hb2 => ?_)
  ·have h:=cond_t hb2 h
   refine ht_seq ?_
   obtain ⟨v3, hv3, h⟩:=zn h
   obtain ⟨v4, hv4, h⟩:=zn h
   obtain ⟨v5, hv5, h⟩:=zn h
   refine wb [[0],[7]] ?_
   refine wN [13,14] ?_
   refine wS (vs v3) [[0],[7],[1],[18]] ⟨op_substr _ _ _ 0 v1 _ underlying9 rfl rfl ⟨_,rfl⟩ hv3⟩ ?_
   refine wN [17,19] ?_
   refine wo [] ⟨lb hv4⟩ ?_
   refine wN [16,20] ?_
   refine wS (vs v5) [[15],[21],[]] ⟨op_substr _ _ _ v4 (s.size:Int) _ underlying9 rfl ⟨_,rfl⟩ rfl hv5⟩ ?_
   refine wee hn [4,5,6] ?_
   refine ht_ret ?_
   refine pt_r_then ?_
   obtain rfl:=zi h
   exact pt_ret hio rfl (.tmp _ _ (.tmp _ _ (.tmp _ _ .nil))) rfl rfl
  ·have h:=cond_f hb2 h
   refine ht_skip ?_
   refine pt_then ?_
   refine yyy hn 4 [4,5,6] ?_
   refine ht_ret ?_
   obtain rfl:=zi h
   exact pt_ret hio rfl (.tmp _ _ (.tmp _ _ (.tmp _ _ .nil))) rfl rfl
theorem ok_strings_Cut (s:ByteArray) (sep:ByteArray) (r:(ByteArray×ByteArray×Bool)) (h:Sh.strings_Cut s sep=some r):FnOK Tryz.prog 127 [.v (.string s), .v (.string sep)] (.tup [.v (.string r.1), .v (.string r.2.1), .v (.bool r.2.2)]):=by
  unfold Sh.strings_Cut at h
  refine yO 13 func127 fun g0 hn hio => ?_
  refine yyy hn 3 [0,1] ?_
  refine ht_seq ?_
  obtain ⟨v1, hv1, h⟩:=zn h
  refine yx hn 2 ?_
  refine ys 6 ⟨lk call151 (ok_internal_stringslite_Cut _ _ _ hv1)⟩ ?_
  refine yee [4,5,6] ?_
  refine ht_ret ?_
  obtain rfl:=zi h
  exact pt_ret hio rfl (.tmp _ _ (.tmp _ _ (.tmp _ _ .nil))) rfl rfl
theorem ok_strings_splitSeq (s:ByteArray) (sep:ByteArray) (sepSave:Int) (r:(ByteArray×ByteArray×Int)) (h:Sh.strings_splitSeq s sep sepSave=some r):FnOK Tryz.prog 155 [.v (.string s), .v (.string sep), .v (.int .i64 sepSave)] (.cloB 161 [.box 9 [.v (.string r.1)], .box 9 [.v (.string r.2.1)], .box 3 [.v (.int .i64 r.2.2)]]):=by
  unfold Sh.strings_splitSeq at h
  refine yO 8 func155 fun g0 hn hio => ?_
  refine yyy hn 4 [3,4,5] ?_
  refine yxx hn 0 ?_
  refine yk [4,3,5] [] ?_
  refine yt (7,.cloB 161 [.box 9 [vs sep],.box 9 [vs s],.box 3 [vi sepSave]]) 0 ⟨op_mkclo _ _ [4,3,5] [.box 9 [vs sep],.box 9 [vs s],.box 3 [vi sepSave]] rfl rfl rfl⟩ ?_
  refine ya 0 ?_
  refine yee [6] ?_
  refine ht_ret ?_
  obtain rfl:=zi h
  exact pt_ret hio rfl (.tmp _ _ .nil) rfl rfl
theorem ok_strings_SplitSeq (s:ByteArray) (sep:ByteArray) (r:(ByteArray×ByteArray×Int)) (h:Sh.strings_SplitSeq s sep=some r):FnOK Tryz.prog 135 [.v (.string s), .v (.string sep)] (.cloB 161 [.box 9 [.v (.string r.1)], .box 9 [.v (.string r.2.1)], .box 3 [.v (.int .i64 r.2.2)]]):=by
  unfold Sh.strings_SplitSeq at h
  refine yO 8 func135 fun g0 hn hio => ?_
  refine yyy hn 1 [0,1] ?_
  refine ht_seq ?_
  obtain ⟨v1, hv1, h⟩:=zn h
  refine yx hn 2 ?_
  refine yk [] [5,6] ?_
  refine yt (7,.cloB 161 [.box 9 [vs v1.1],.box 9 [vs v1.2.1],.box 3 [vi v1.2.2]]) 0 ⟨op_callS _ _ 155 _ _ rfl call155 rfl rfl (ok_strings_splitSeq s sep 0 _ hv1) rfl⟩ ?_
  refine ya 0 ?_
  refine yee [4] ?_
  refine ht_ret ?_
  obtain rfl:=zi h
  exact pt_ret hio rfl (.tmp _ _ .nil) rfl rfl
theorem ok_unicode_utf8_decodeRuneInStringSlow (mx:Int) (s:ByteArray) (r:(Int×Int)) (h:Sh.unicode_utf8_decodeRuneInStringSlow s=some r):FnG Tryz.prog (GL mx) 143 [.v (.string s)] (.tup [.v (.int .i32 r.1), .v (.int .i64 r.2)]):=by
  unfold Sh.unicode_utf8_decodeRuneInStringSlow at h
  refine yG 117 func143 fun g0 hn hio => ?_
  refine yyy hn 2 [0,117] ?_
  refine yyy hn 3 [0,117,4] ?_
  refine ht_seq ?_
  refine yyy hn 2 [0,117,4,16] ?_
  refine ht_cond _ rfl (fun hb1 => ?_) (fun hb1 => ?_)
  ·have h:=cond_t hb1 h
   refine yyy hn 2 [117,2,3] ?_
   refine ht_ret ?_
   refine pt_pick [1,2] (by kernel_rfl) (es':=[(_,_),(_,_)]) rfl ?_
   refine pt_r_then ?_
   obtain rfl:=zi h
   exact pt_ret hio rfl (.tmp _ _ (.tmp _ _ .nil)) rfl rfl
  ·have h:=cond_f hb1 h
   refine ht_skip ?_
   refine pt_then (ht_seq ?_)
   obtain ⟨v2, hv2, h⟩:=zn h
   refine yx hn 1 ?_
   refine ys 1 ⟨lh hv2⟩ ?_
   refine yee [0,117,4,5] ?_
   refine ht_seq ?_
   obtain ⟨v3, hv3, h⟩:=zn h
   obtain ⟨v4, hv4, h⟩:=zn h
   refine yx hn 1 ?_
   refine yS (.v (.pointer (some ⟨6,(0+v3 * 1),none⟩))) 0 ⟨op_ix_globz _ _ _ _ 256 6 0 _ 1 _ underlying183 sz5 rfl rfl (ix_ok hv3).1 (ix_ok hv3).2⟩ ?_
   refine yS (.v (.int .u8 v4)) 1 ⟨op_load_glob _ _ 117 6 _ _ _ underlying5 rfl rfl rfl (gl_mem6 mx) (map_get1 hv4)⟩ ?_
   refine yee [0,117,4,5,6] ?_
   refine ht_seq ?_
   refine yyy hn 2 [0,117,4,5,6,23] ?_
   refine ht_cond _ rfl (fun hb5 => ?_) (fun hb5 => ?_)
   ·have h:=cond_t hb5 h
    refine ht_seq ?_
    obtain ⟨v6, hv6, h⟩:=zn h
    obtain ⟨v7, hv7, h⟩:=zn h
    obtain ⟨v8, hv8, h⟩:=zn h
    refine yx hn 1 ?_
    refine ys 0 ⟨lv hv6⟩ ?_
    refine ys 0 ⟨lB (shl_ok hv7)⟩ ?_
    refine ys 1 ⟨lB (shr_ok hv8)⟩ ?_
    refine yee [0,117,7] ?_
    refine ht_seq ?_
    obtain ⟨v9, hv9, h⟩:=zn h
    obtain ⟨v10, hv10, h⟩:=zn h
    obtain ⟨v11, hv11, h⟩:=zn h
    obtain ⟨v12, hv12, h⟩:=zn h
    obtain ⟨v13, hv13, h⟩:=zn h
    refine yx hn 1 ?_
    refine ys 0 ⟨lh hv9⟩ ?_
    refine ys 1 ⟨lv hv10⟩ ?_
    refine ys 1 ⟨lb hv11⟩ ?_
    refine ys 0 ⟨lb hv12⟩ ?_
    refine ys 2 ⟨lb hv13⟩ ?_
    refine yee [117,2,3] ?_
    refine ht_ret ?_
    refine pt_pick [1,2] (by kernel_rfl) (es':=[(_,_),(_,_)]) rfl ?_
    refine pt_r_then ?_
    obtain rfl:=zi h
    exact pt_ret hio rfl (.tmp _ _ (.tmp _ _ .nil)) rfl rfl
   ·have h:=cond_f hb5 h
    cases h
theorem ok_unicode_utf8_DecodeRuneInString (mx:Int) (s:ByteArray) (r:(Int×Int)) (h:Sh.unicode_utf8_DecodeRuneInString s=some r):FnG Tryz.prog (GL mx) 117 [.v (.string s)] (.tup [.v (.int .i32 r.1), .v (.int .i64 r.2)]):=by
  unfold Sh.unicode_utf8_DecodeRuneInString at h
  refine yG 19 func117 fun g0 hn hio => ?_
  refine yyy hn 2 [0,19] ?_
  refine ht_seq ?_
  refine ht_seq ?_
  refine ht_joinS h (fun (s2:Bool)=>[(0,vs s),(19,.glob (GL mx)),(10,vb s2)]) ?_ ?_
  ·rintro s2 h
   refine pt_then ?_
   refine ht_cond _ rfl (fun hb6 => ?_) (fun hb6 => ?_)
   ·have h:=cond_t hb6 h
    refine ht_seq ?_
    obtain ⟨v7, hv7, h⟩:=zn h
    obtain ⟨v8, hv8, h⟩:=zn h
    refine yx hn 1 ?_
    refine ys 0 ⟨lh hv7⟩ ?_
    refine ys 2 ⟨lv hv8⟩ ?_
    refine yee [19,2,3] ?_
    refine ht_ret ?_
    refine pt_pick [1,2] (by kernel_rfl) (es':=[(_,_),(_,_)]) rfl ?_
    refine pt_r_then ?_
    obtain rfl:=zi h
    exact pt_ret hio rfl (.tmp _ _ (.tmp _ _ .nil)) rfl rfl
   ·have h:=cond_f hb6 h
    obtain ⟨v9, hv9, h⟩:=zn h
    refine yx hn 1 ?_
    refine ys 0 ⟨lg call143 (ok_unicode_utf8_decodeRuneInStringSlow _ _ _ hv9) 19⟩ ?_
    refine ym 4 ?_
    refine yee [19,2,3] ?_
    refine ht_ret ?_
    refine pt_pick [1,2] (by kernel_rfl) (es':=[(_,_),(_,_)]) rfl ?_
    obtain rfl:=zi h
    exact pt_ret hio rfl (.tmp _ _ (.tmp _ _ .nil)) rfl rfl
  ·intro u3 h hl4 hr5
   refine cond_some h (fun hg1_2 h => ?_) (fun hg1_2 h => ?_)
   ·obtain ⟨v1, hv1, h⟩:=zn h
    refine yx hn 3 ?_
    refine yd hg1_2 1 ?_
    refine ys 2 ⟨lh hv1⟩ ?_
    refine ye [0,19,10] ?_
    exact hl4 _ (zi h).symm
   ·refine yx hn 3 ?_
    refine yd hg1_2 4 ?_
    refine ye [0,19,10] ?_
    exact hl4 _ (zi h).symm
theorem ok_strings_splitSeq_1 (mx:Int) (l:Nat) {S:Type} (J:S→InvT) (Y:ByteArray→S→Option (S×Bool)) (hY:YieldOK Tryz.prog l (fun x => .v (.string x)) Y J) (c0:ByteArray) (c1:ByteArray) (c2:Int) (st r:S) (h:Sh.strings_splitSeq_1 Y c0 c1 c2 st=some r):FnI Tryz.prog (GL mx) 161 l [.box 9 [.v (.string c0)], .box 9 [.v (.string c1)], .box 3 [.v (.int .i64 c2)]] (J st) (J r):=by
  unfold Sh.strings_splitSeq_1 at h
  refine yI 52 func161 fun g0 hn hio => ?_
  refine ht_seq ?_
  refine yyy hn 3 [0,1,2,3,52,53,11] ?_
  refine ht_cond _ rfl (fun hb1 => ?_) (fun hb1 => ?_)
  ·have h:=cond_t hb1 h
   refine ht_seq ?_
   refine ht_pick [0,2,4,5] (by kernel_rfl) (es':=[(_,_),(_,_),(_,_),(_,_)]) rfl ?_
   refine ht_loopS h (fun ((s12,s13):ByteArray×S)=>[(0,.v (.func (.yield l) #[] #[])),(2,.box 9 [vs s12]),(52,.glob (GL mx)),(53,.inv (J s13))]) (fun (s16:S)=>[(52,.glob (GL mx)),(53,.inv (J s16))]) ?_ ?_
   ·rintro s16 h
    refine pt_then (ht_ret ?_)
    refine pt_pick [1] (by kernel_rfl) (es':=[(53,.inv (J s16))]) rfl ?_
    refine pt_r_then ?_
    obtain rfl:=zi h
    exact pt_retI hio rfl rfl rfl
   ·rintro u17 hl18 hr19 ⟨s12, s13⟩ rr22 h ho20
    refine ht_seq ?_
    refine yyy hn 3 [0,2,52,53,14] ?_
    refine ht_cond _ rfl (fun hb23 => ?_) (fun hb23 => ?_)
    ·have h:=cond_t hb23 h
     refine ht_skip ?_
     refine pt_then ?_
     refine ht_block ?_
     refine ht_seq ?_
     obtain ⟨v3, hv3, h⟩:=zn h
     refine yx hn 1 ?_
     refine ys 0 ⟨lg call117 (ok_unicode_utf8_DecodeRuneInString _ _ _ hv3) 52⟩ ?_
     refine ym 4 ?_
     refine yee [0,2,52,53,6] ?_
     refine ht_seq ?_
     refine ht_seq ?_
     obtain ⟨v4, hv4, h⟩:=zn h
     obtain ⟨v5, hv5, h⟩:=zn h
     refine yx hn 3 ?_
     refine yS (vs v4) 0 ⟨op_substr _ _ _ 0 v3.2 _ underlying9 rfl rfl ⟨_,rfl⟩ hv4⟩ ?_
     refine yk [53] [23,20] ?_
     refine ytt (53,.inv (J v5.1)) (24,vb v5.2) 1 ⟨op_yield _ _ 53 l v4 s13 v5 hY hv5 rfl rfl rfl⟩ ?_
     refine yee [0,2,52,53,6,25] ?_
     refine ht_cond _ rfl (fun hb24 => ?_) (fun hb24 => ?_)
     ·have h:=cond_t hb24 h
      refine ht_ret ?_
      refine pt_pick [3] (by kernel_rfl) (es':=[(53,.inv (J v5.1))]) rfl ?_
      refine pt_r_then ?_
      refine pt_r_in ?_
      refine pt_r_then ?_
      refine pt_r_in ?_
      refine pt_r_then ?_
      refine pt_r_then ?_
      have h:=hr19 _ (ho20 _ (zi h).symm).symm
      obtain rfl:=zi h
      exact pt_retI hio rfl rfl rfl
     ·have h:=cond_f hb24 h
      refine ht_skip ?_
      refine pt_then ?_
      obtain ⟨v7, hv7, h⟩:=zn h
      refine yx hn 2 ?_
      refine yS (vs v7) 1 ⟨op_substr _ _ _ v3.2 (s12.size:Int) _ underlying9 rfl ⟨_,rfl⟩ rfl hv7⟩ ?_
      refine ye [0,2,52,53] ?_
      refine pt_inb ?_
      exact pt_next _ (zi h).symm rfl
    ·have h:=cond_f hb23 h
     refine ht_exit ?_
     refine pt_x_then ?_
     refine pt_x_then ?_
     refine pt_x_in ?_
     refine pt_pick [2,3] (by kernel_rfl) (es':=[(_,_),(_,_)]) rfl ?_
     exact hl18 _ (ho20 _ (zi h).symm).symm
  ·have h:=cond_f hb1 h
   refine ht_skip ?_
   refine pt_then (ht_seq ?_)
   refine ht_pick [0,1,2,3,4,5] (by kernel_rfl) (es':=[(_,_),(_,_),(_,_),(_,_),(_,_),(_,_)]) rfl ?_
   refine ht_loopS h (fun ((s37,s38):ByteArray×S)=>[(0,.v (.func (.yield l) #[] #[])),(1,.box 9 [vs c0]),(2,.box 9 [vs s37]),(3,.box 3 [vi c2]),(52,.glob (GL mx)),(53,.inv (J s38))]) (fun ((s41,s42):ByteArray×S)=>[(0,.v (.func (.yield l) #[] #[])),(2,.box 9 [vs s41]),(52,.glob (GL mx)),(53,.inv (J s42))]) ?_ ?_
   ·rintro ⟨s41, s42⟩ h
    refine pt_then ?_
    obtain ⟨v51, hv51, h⟩:=zn h
    refine yx hn 2 ?_
    refine yk [53] [50,49] ?_
    refine ytt (53,.inv (J v51.1)) (51,vb v51.2) 0 ⟨op_yield _ _ 53 l s41 s42 v51 hY hv51 rfl rfl rfl⟩ ?_
    refine ye [52,53] ?_
    refine pt_pick [1] (by kernel_rfl) (es':=[(53,.inv (J v51.1))]) rfl ?_
    obtain rfl:=zi h
    exact pt_endI hio rfl rfl rfl
   ·rintro u43 hl44 hr45 ⟨s37, s38⟩ rr48 h ho46
    refine ht_block ?_
    refine ht_seq ?_
    obtain ⟨v25, hv25, h⟩:=zn h
    refine yx hn 2 ?_
    refine ys 1 ⟨lk call98 (ok_strings_Index _ _ _ hv25)⟩ ?_
    refine yee [0,1,2,3,52,53,7] ?_
    refine ht_seq ?_
    refine yyy hn 2 [0,1,2,3,52,53,7,33] ?_
    refine ht_cond _ rfl (fun hb49 => ?_) (fun hb49 => ?_)
    ·have h:=cond_t hb49 h
     refine ht_exit ?_
     refine pt_x_then ?_
     refine pt_x_out (by decide) ?_
     refine pt_x_then ?_
     refine pt_x_in ?_
     refine pt_pick [0,2,4,5] (by kernel_rfl) (es':=[(_,_),(_,_),(_,_),(_,_)]) rfl ?_
     exact hl44 _ (ho46 _ (zi h).symm).symm
    ·have h:=cond_f hb49 h
     refine ht_skip ?_
     refine pt_then (ht_seq ?_)
     obtain ⟨v27, hv27, h⟩:=zn h
     obtain ⟨v28, hv28, h⟩:=zn h
     refine yx hn 3 ?_
     refine ys 0 ⟨lb hv27⟩ ?_
     refine yS (vs v28) 1 ⟨op_substr _ _ _ 0 v27 _ underlying9 rfl rfl ⟨_,rfl⟩ hv28⟩ ?_
     refine yee [0,1,2,3,52,53,7,8] ?_
     refine ht_seq ?_
     refine ht_seq ?_
     obtain ⟨v29, hv29, h⟩:=zn h
     refine yx hn 2 ?_
     refine yk [53] [40,39] ?_
     refine ytt (53,.inv (J v29.1)) (41,vb v29.2) 1 ⟨op_yield _ _ 53 l v28 s38 v29 hY hv29 rfl rfl rfl⟩ ?_
     refine yee [0,1,2,3,52,53,7,42] ?_
     refine ht_cond _ rfl (fun hb50 => ?_) (fun hb50 => ?_)
     ·have h:=cond_t hb50 h
      refine ht_ret ?_
      refine pt_pick [5] (by kernel_rfl) (es':=[(53,.inv (J v29.1))]) rfl ?_
      refine pt_r_then ?_
      refine pt_r_in ?_
      refine pt_r_then ?_
      refine pt_r_in ?_
      refine pt_r_then ?_
      have h:=hr45 _ (ho46 _ (zi h).symm).symm
      obtain rfl:=zi h
      exact pt_retI hio rfl rfl rfl
     ·have h:=cond_f hb50 h
      refine ht_skip ?_
      refine pt_then ?_
      obtain ⟨v31, hv31, h⟩:=zn h
      obtain ⟨v32, hv32, h⟩:=zn h
      refine yx hn 4 ?_
      refine ys 0 ⟨lb hv31⟩ ?_
      refine yS (vs v32) 1 ⟨op_substr _ _ _ v31 (s37.size:Int) _ underlying9 rfl ⟨_,rfl⟩ rfl hv32⟩ ?_
      refine ye [0,1,2,3,52,53] ?_
      refine pt_inb ?_
      exact pt_next _ (zi h).symm rfl
theorem ok_path_alphanumeric (c:Int) (r:Bool) (h:Sh.path_alphanumeric c=some r):FnOK Tryz.prog 138 [.v (.int .u8 c)] (.v (.bool r)):=by
  unfold Sh.path_alphanumeric at h
  refine yO 25 func138 fun g0 hn hio => ?_
  refine yyy hn 1 [0] ?_
  refine ht_seq ?_
  refine ht_joinS h (fun (s1:Bool)=>[(2,vb s1)]) ?_ ?_
  ·rintro s1 h
   refine pt_then (ht_ret ?_)
   obtain rfl:=zi h
   exact pt_ret hio rfl (.tmp _ _ .nil) rfl rfl
  ·intro u2 h hl3 hr4
   refine cond_some h (fun hg1_2 h => ?_) (fun hg1_2 h => ?_)
   ·refine cond_some h (fun hg1_6 h => ?_) (fun hg1_6 h => ?_)
    ·refine yx hn 3 ?_
     refine yd hg1_2 4 ?_
     refine yd hg1_6 16 ?_
     refine ye [2] ?_
     exact hl3 _ (zi h).symm
    ·refine cond_some h (fun hg1_9 h => ?_) (fun hg1_9 h => ?_)
     ·refine cond_some h (fun hg1_14 h => ?_) (fun hg1_14 h => ?_)
      ·refine yx hn 3 ?_
       refine yd hg1_2 4 ?_
       refine yd hg1_6 3 ?_
       refine yd hg1_9 5 ?_
       refine yd hg1_14 8 ?_
       refine ye [2] ?_
       exact hl3 _ (zi h).symm
      ·refine cond_some h (fun hg1_17 h => ?_) (fun hg1_17 h => ?_)
       ·refine yx hn 3 ?_
        refine yd hg1_2 4 ?_
        refine yd hg1_6 3 ?_
        refine yd hg1_9 5 ?_
        refine yd hg1_14 3 ?_
        refine yd hg1_17 5 ?_
        refine ye [2] ?_
        exact hl3 _ (zi h).symm
       ·refine yx hn 3 ?_
        refine yd hg1_2 4 ?_
        refine yd hg1_6 3 ?_
        refine yd hg1_9 5 ?_
        refine yd hg1_14 3 ?_
        refine yd hg1_17 5 ?_
        refine ye [2] ?_
        exact hl3 _ (zi h).symm
     ·refine cond_some h (fun hg1_17 h => ?_) (fun hg1_17 h => ?_)
      ·refine yx hn 3 ?_
       refine yd hg1_2 4 ?_
       refine yd hg1_6 3 ?_
       refine yd hg1_9 8 ?_
       refine yd hg1_17 5 ?_
       refine ye [2] ?_
       exact hl3 _ (zi h).symm
      ·refine yx hn 3 ?_
       refine yd hg1_2 4 ?_
       refine yd hg1_6 3 ?_
       refine yd hg1_9 8 ?_
       refine yd hg1_17 5 ?_
       refine ye [2] ?_
       exact hl3 _ (zi h).symm
   ·refine cond_some h (fun hg1_9 h => ?_) (fun hg1_9 h => ?_)
    ·refine cond_some h (fun hg1_14 h => ?_) (fun hg1_14 h => ?_)
     ·refine yx hn 3 ?_
      refine yd hg1_2 7 ?_
      refine yd hg1_9 5 ?_
      refine yd hg1_14 8 ?_
      refine ye [2] ?_
      exact hl3 _ (zi h).symm
     ·refine cond_some h (fun hg1_17 h => ?_) (fun hg1_17 h => ?_)
      ·refine yx hn 3 ?_
       refine yd hg1_2 7 ?_
       refine yd hg1_9 5 ?_
       refine yd hg1_14 3 ?_
       refine yd hg1_17 5 ?_
       refine ye [2] ?_
       exact hl3 _ (zi h).symm
      ·refine yx hn 3 ?_
       refine yd hg1_2 7 ?_
       refine yd hg1_9 5 ?_
       refine yd hg1_14 3 ?_
       refine yd hg1_17 5 ?_
       refine ye [2] ?_
       exact hl3 _ (zi h).symm
    ·refine cond_some h (fun hg1_17 h => ?_) (fun hg1_17 h => ?_)
     ·refine yx hn 3 ?_
      refine yd hg1_2 7 ?_
      refine yd hg1_9 8 ?_
      refine yd hg1_17 5 ?_
      refine ye [2] ?_
      exact hl3 _ (zi h).symm
     ·refine yx hn 3 ?_
      refine yd hg1_2 7 ?_
      refine yd hg1_9 8 ?_
      refine yd hg1_17 5 ?_
      refine ye [2] ?_
      exact hl3 _ (zi h).symm
theorem ok_strings_IndexByte (s:ByteArray) (c r:Int) (h:Sh.strings_IndexByte s c=some r):FnOK Tryz.prog 139 [.v (.string s), .v (.int .u8 c)] (.v (.int .i64 r)):=lib_strings_IndexByte Tryz.strings_IndexByte s c r h
theorem ok_path_atom_1 (c:Int) (r:Bool) (h:Sh.path_atom_1 c=some r):FnOK Tryz.prog 137 [.v (.int .u8 c)] (.v (.bool r)):=by
  unfold Sh.path_atom_1 at h
  refine yO 10 func137 fun g0 hn hio => ?_
  refine yyy hn 1 [0] ?_
  refine ht_seq ?_
  refine ht_joinS h (fun (s3:Bool)=>[(2,vb s3)]) ?_ ?_
  ·rintro s3 h
   refine pt_then (ht_ret ?_)
   obtain rfl:=zi h
   exact pt_ret hio rfl (.tmp _ _ .nil) rfl rfl
  ·intro u4 h hl5 hr6
   obtain ⟨v1, hv1, h⟩:=zn h
   refine cond_some h (fun hg1_2 h => ?_) (fun hg1_2 h => ?_)
   ·refine yx hn 1 ?_
    refine ys 1 ⟨lk call138 (ok_path_alphanumeric _ _ hv1)⟩ ?_
    refine yd hg1_2 5 ?_
    refine ye [2] ?_
    exact hl5 _ (zi h).symm
   ·obtain ⟨v2, hv2, h⟩:=zn h
    refine yx hn 1 ?_
    refine ys 1 ⟨lk call138 (ok_path_alphanumeric _ _ hv1)⟩ ?_
    refine yd hg1_2 1 ?_
    refine ys 3 ⟨lk call139 (ok_strings_IndexByte _ _ _ hv2)⟩ ?_
    refine ye [2] ?_
    exact hl5 _ (zi h).symm
theorem ok_path_all_of_path_atom_1 (s:ByteArray) (r:Bool) (h:Sh.path_all_of_path_atom_1 s=some r):FnOK Tryz.prog 136 [.v (.string s), .v (.func (.func 137) #[] #[])] (.v (.bool r)):=by
  unfold Sh.path_all_of_path_atom_1 at h
  refine yO 18 func136 fun g0 hn hio => ?_
  refine yyy hn 1 [0,1] ?_
  refine ht_seq ?_
  refine yyy hn 3 [0,1,7,8] ?_
  refine ht_loopS h (fun (s9:Int)=>[(0,vs s),(1,.v (.func (.func 137) #[] #[])),(7,vi (s.size:Int)),(8,vi s9)]) (fun (():Unit)=>[]) ?_ ?_
  ·rintro ⟨⟩ h
   refine pt_then ?_
   refine yyy hn 1 [4] ?_
   refine ht_ret ?_
   obtain rfl:=zi h
   exact pt_ret hio rfl (.tmp _ _ .nil) rfl rfl
  ·rintro u12 hl13 hr14 s9 rr17 h ho15
   refine yyy hn 1 [0,1,7,8,9] ?_
   refine ht_seq ?_
   refine ht_cond _ rfl (fun hb18 => ?_) (fun hb18 => ?_)
   ·have h:=cond_t hb18 h
    refine ht_skip ?_
    refine pt_then (ht_seq ?_)
    refine ht_block ?_
    refine yyy hn 2 [0,1,7,8,5] ?_
    refine ht_seq ?_
    obtain ⟨v2, hv2, h⟩:=zn h
    obtain ⟨v3, hv3, h⟩:=zn h
    refine yx hn 3 ?_
    refine ys 0 ⟨lh hv2⟩ ?_
    refine ys 1 ⟨lk call137 (ok_path_atom_1 _ _ hv3)⟩ ?_
    refine yee [0,1,7,8,16] ?_
    refine ht_cond _ rfl (fun hb19 => ?_) (fun hb19 => ?_)
    ·have h:=cond_t hb19 h
     refine yyy hn 1 [4] ?_
     refine ht_ret ?_
     refine pt_r_in ?_
     refine pt_r_then ?_
     refine pt_r_then ?_
     refine pt_r_in ?_
     refine pt_r_then ?_
     have h:=hr14 _ (ho15 _ (zi h).symm).symm
     obtain rfl:=zi h
     exact pt_ret hio rfl (.tmp _ _ .nil) rfl rfl
    ·have h:=cond_f hb19 h
     refine ht_skip ?_
     refine pt_inb ?_
     refine pt_then ?_
     obtain ⟨v5, hv5, h⟩:=zn h
     refine yx hn 0 ?_
     refine ys 0 ⟨lb hv5⟩ ?_
     refine yw [8] 1 ?_
     refine ye [0,1,7,8] ?_
     exact pt_next _ (zi h).symm rfl
   ·have h:=cond_f hb18 h
    refine ht_exit ?_
    refine pt_x_then ?_
    refine pt_x_then ?_
    refine pt_x_in ?_
    refine pt_pick [] (by kernel_rfl) (es':=[]) rfl ?_
    exact hl13 _ (ho15 _ (zi h).symm).symm
theorem ok_path_atom (s:ByteArray) (r:Bool) (h:Sh.path_atom s=some r):FnOK Tryz.prog 109 [.v (.string s)] (.v (.bool r)):=by
  unfold Sh.path_atom at h
  refine yO 9 func109 fun g0 hn hio => ?_
  refine yyy hn 1 [0] ?_
  refine ht_seq ?_
  refine ht_joinS h (fun (s2:Bool)=>[(2,vb s2)]) ?_ ?_
  ·rintro s2 h
   refine pt_then (ht_ret ?_)
   obtain rfl:=zi h
   exact pt_ret hio rfl (.tmp _ _ .nil) rfl rfl
  ·intro u3 h hl4 hr5
   refine cond_some h (fun hg1_2 h => ?_) (fun hg1_2 h => ?_)
   ·obtain ⟨v1, hv1, h⟩:=zn h
    refine yx hn 3 ?_
    refine yd hg1_2 1 ?_
    refine ys 2 ⟨lk call136 (ok_path_all_of_path_atom_1 _ _ hv1)⟩ ?_
    refine ye [2] ?_
    exact hl4 _ (zi h).symm
   ·refine yx hn 3 ?_
    refine yd hg1_2 4 ?_
    refine ye [2] ?_
    exact hl4 _ (zi h).symm
theorem ok_path_dotted_of_path_atom (mx:Int) (s:ByteArray) (r:Bool) (h:Sh.path_dotted_of_path_atom s=some r):FnG Tryz.prog (GL mx) 108 [.v (.string s), .v (.func (.func 109) #[] #[])] (.v (.bool r)):=by
  unfold Sh.path_dotted_of_path_atom at h
  refine yG 13 func108 fun g0 hn hio => ?_
  refine yxx hn 1 ?_
  refine yS (.box 4 [vb false]) 0 ⟨oA (op_alloc _ _ zr4)⟩ ?_
  refine yee [0,13,3,4] ?_
  refine ht_seq ?_
  refine ht_seq ?_
  obtain ⟨v1, hv1, h⟩:=zn h
  refine yx hn 1 ?_
  refine yk [] [6] ?_
  refine yt (7,.cloB 161 [.box 9 [vs v1.1],.box 9 [vs v1.2.1],.box 3 [vi v1.2.2]]) 0 ⟨op_callS _ _ 135 _ _ rfl call135 rfl rfl (ok_strings_SplitSeq s (⟨#[46]⟩:ByteArray) _ hv1) rfl⟩ ?_
  refine yee [13,3,4,7] ?_
  refine ht_block ?_
  refine ht_pick [3,0,1,2] (by kernel_rfl) (es':=[(7,.cloB 161 [.box 9 [vs v1.1],.box 9 [vs v1.2.1],.box 3 [vi v1.2.2]]),(13,.glob (GL mx)),(3,.box 125 [.v (.func (.func 109) #[] #[])]),(4,.box 4 [vb false])]) rfl ?_
  refine ht_rangeF h 161 7 8 14 _ [13, 3, 4] call161 (fun (():Unit)=>[(13, .glob (GL mx)), (3, .box 125 [.v (.func (.func 109) #[] #[])]), (4, .box 4 [.v (.bool false)])]) (fun (():Unit)=>[(13, .glob (GL mx)), (3, .box 125 [.v (.func (.func 109) #[] #[])]), (4, .box 4 [.v (.bool false)])]) (fun l J Y hY t t' h=>ok_strings_splitSeq_1 mx l J Y hY v1.1 v1.2.1 v1.2.2 t t' h) hn rfl (fun _=>rfl) (fun _=>rfl) (fun _=>rfl) rfl rfl (fun _=>⟨rfl, rfl⟩) rfl (glIn_look 13 rfl) ?_ ?_ ?_
  ·rintro kk g0 hn hio x ⟨⟩ u h
   refine ht_es (es':=[(8,vs x),(13,.glob (GL mx)),(3,.box 125 [.v (.func (.func 109) #[] #[])]),(4,.box 4 [vb false]),(13,.v (kk.tm.getD 13 undef)),(3,.v (kk.tm.getD 3 undef)),(4,.v (kk.tm.getD 4 undef)),(14,.inv kk.ready)]) rfl ?_
   refine yy hn 1 [13,3,4,14,5,13,3,4] ?_
   refine pt_pick [0,1,2,4,5,6,7,3] (by kernel_rfl) (es':=[(13,.glob (GL mx)),(3,.box 125 [.v (.func (.func 109) #[] #[])]),(4,.box 4 [vb false]),(5,vs x),(13,.v (kk.tm.getD 13 undef)),(3,.v (kk.tm.getD 3 undef)),(4,.v (kk.tm.getD 4 undef)),(14,.inv kk.ready)]) rfl ?_
   refine pt_begin (es:=[(13,.glob (GL mx)),(3,.box 125 [.v (.func (.func 109) #[] #[])]),(4,.box 4 [vb false]),(5,vs x),(13,.v (kk.tm.getD 13 undef)),(3,.v (kk.tm.getD 3 undef)),(4,.v (kk.tm.getD 4 undef))]) 14 rfl ?_
   refine ht_block ?_
   refine ht_seq ?_
   obtain ⟨v2, hv2, h⟩:=zn h
   refine yx hn 2 ?_
   refine ys 1 ⟨lk call109 (ok_path_atom _ _ hv2)⟩ ?_
   refine yee [13,3,4,14,12,13,3,4] ?_
   refine ht_cond _ rfl (fun hb5 => ?_) (fun hb5 => ?_)
   ·have h:=cond_t hb5 h
    refine yyy hn 1 [13,3,4,14,13,3,4] ?_
    refine ht_ret ?_
    refine pt_r_in ?_
    refine pt_pick [0,1,2,4,5,6,3] (by kernel_rfl) (es':=[(_,_),(_,_),(_,_),(_,_),(_,_),(_,_),(_,_)]) rfl ?_
    obtain rfl:=zi h
    exact pt_rret 14 [13, 3, 4] _ rfl rfl (by kernel_rfl)
   ·have h:=cond_f hb5 h
    refine ht_skip ?_
    refine pt_inb ?_
    refine pt_pick [0,1,2,5,6,7,3] (by kernel_rfl) (es':=[(_,_),(_,_),(_,_),(_,_),(_,_),(_,_),(_,_)]) rfl ?_
    obtain rfl:=zi h
    exact pt_rnext 14 [13, 3, 4] _ rfl rfl (by kernel_rfl)
  ·rintro D ⟨⟩ h
   refine pt_inb ?_
   refine pt_then ?_
   refine yyy hn 1 [13,4] ?_
   refine ht_ret ?_
   refine pt_pick [1] (by kernel_rfl) (es':=[(_,_)]) rfl ?_
   obtain rfl:=zi h
   exact pt_ret hio rfl (.cell1 _ _ _ _ underlying4 rfl .nil) rfl rfl
  ·rintro D ⟨⟩ h
   refine pt_pick [2] (by kernel_rfl) (es':=[(_,_)]) rfl ?_
   refine pt_r_in ?_
   refine pt_r_then ?_
   obtain rfl:=zi h
   exact pt_ret hio rfl (.cell1 _ _ _ _ underlying4 rfl .nil) rfl rfl
theorem ok_path_local (mx:Int) (s:ByteArray) (r:Bool) (h:Sh.path_local s=some r):FnG Tryz.prog (GL mx) 87 [.v (.string s)] (.v (.bool r)):=by
  unfold Sh.path_local at h
  refine yG 10 func87 fun g0 hn hio => ?_
  refine yyy hn 1 [0,10] ?_
  refine ht_seq ?_
  refine ht_joinS h (fun (s2:Bool)=>[(10,.glob (GL mx)),(2,vb s2)]) ?_ ?_
  ·rintro s2 h
   refine pt_then (ht_ret ?_)
   refine pt_pick [1] (by kernel_rfl) (es':=[(_,_)]) rfl ?_
   obtain rfl:=zi h
   exact pt_ret hio rfl (.tmp _ _ .nil) rfl rfl
  ·intro u3 h hl4 hr5
   refine cond_some h (fun hg1_3 h => ?_) (fun hg1_3 h => ?_)
   ·obtain ⟨v1, hv1, h⟩:=zn h
    refine yx hn 4 ?_
    refine yd hg1_3 1 ?_
    refine ys 2 ⟨lg call108 (ok_path_dotted_of_path_atom _ _ _ hv1) 10⟩ ?_
    refine ye [10,2] ?_
    exact hl4 _ (zi h).symm
   ·refine yx hn 4 ?_
    refine yd hg1_3 4 ?_
    refine ye [10,2] ?_
    exact hl4 _ (zi h).symm
theorem ok_path_label_1 (c:Int) (r:Bool) (h:Sh.path_label_1 c=some r):FnOK Tryz.prog 140 [.v (.int .u8 c)] (.v (.bool r)):=by
  unfold Sh.path_label_1 at h
  refine yO 9 func140 fun g0 hn hio => ?_
  refine yyy hn 1 [0] ?_
  refine ht_seq ?_
  refine ht_joinS h (fun (s2:Bool)=>[(2,vb s2)]) ?_ ?_
  ·rintro s2 h
   refine pt_then (ht_ret ?_)
   obtain rfl:=zi h
   exact pt_ret hio rfl (.tmp _ _ .nil) rfl rfl
  ·intro u3 h hl4 hr5
   obtain ⟨v1, hv1, h⟩:=zn h
   refine cond_some h (fun hg1_2 h => ?_) (fun hg1_2 h => ?_)
   ·refine yx hn 1 ?_
    refine ys 1 ⟨lk call138 (ok_path_alphanumeric _ _ hv1)⟩ ?_
    refine yd hg1_2 4 ?_
    refine ye [2] ?_
    exact hl4 _ (zi h).symm
   ·refine yx hn 1 ?_
    refine ys 1 ⟨lk call138 (ok_path_alphanumeric _ _ hv1)⟩ ?_
    refine yd hg1_2 4 ?_
    refine ye [2] ?_
    exact hl4 _ (zi h).symm
theorem ok_path_all_of_path_label_1 (s:ByteArray) (r:Bool) (h:Sh.path_all_of_path_label_1 s=some r):FnOK Tryz.prog 136 [.v (.string s), .v (.func (.func 140) #[] #[])] (.v (.bool r)):=by
  unfold Sh.path_all_of_path_label_1 at h
  refine yO 18 func136 fun g0 hn hio => ?_
  refine yyy hn 1 [0,1] ?_
  refine ht_seq ?_
  refine yyy hn 3 [0,1,7,8] ?_
  refine ht_loopS h (fun (s9:Int)=>[(0,vs s),(1,.v (.func (.func 140) #[] #[])),(7,vi (s.size:Int)),(8,vi s9)]) (fun (():Unit)=>[]) ?_ ?_
  ·rintro ⟨⟩ h
   refine pt_then ?_
   refine yyy hn 1 [4] ?_
   refine ht_ret ?_
   obtain rfl:=zi h
   exact pt_ret hio rfl (.tmp _ _ .nil) rfl rfl
  ·rintro u12 hl13 hr14 s9 rr17 h ho15
   refine yyy hn 1 [0,1,7,8,9] ?_
   refine ht_seq ?_
   refine ht_cond _ rfl (fun hb18 => ?_) (fun hb18 => ?_)
   ·have h:=cond_t hb18 h
    refine ht_skip ?_
    refine pt_then (ht_seq ?_)
    refine ht_block ?_
    refine yyy hn 2 [0,1,7,8,5] ?_
    refine ht_seq ?_
    obtain ⟨v2, hv2, h⟩:=zn h
    obtain ⟨v3, hv3, h⟩:=zn h
    refine yx hn 3 ?_
    refine ys 0 ⟨lh hv2⟩ ?_
    refine ys 1 ⟨lk call140 (ok_path_label_1 _ _ hv3)⟩ ?_
    refine yee [0,1,7,8,16] ?_
    refine ht_cond _ rfl (fun hb19 => ?_) (fun hb19 => ?_)
    ·have h:=cond_t hb19 h
     refine yyy hn 1 [4] ?_
     refine ht_ret ?_
     refine pt_r_in ?_
     refine pt_r_then ?_
     refine pt_r_then ?_
     refine pt_r_in ?_
     refine pt_r_then ?_
     have h:=hr14 _ (ho15 _ (zi h).symm).symm
     obtain rfl:=zi h
     exact pt_ret hio rfl (.tmp _ _ .nil) rfl rfl
    ·have h:=cond_f hb19 h
     refine ht_skip ?_
     refine pt_inb ?_
     refine pt_then ?_
     obtain ⟨v5, hv5, h⟩:=zn h
     refine yx hn 0 ?_
     refine ys 0 ⟨lb hv5⟩ ?_
     refine yw [8] 1 ?_
     refine ye [0,1,7,8] ?_
     exact pt_next _ (zi h).symm rfl
   ·have h:=cond_f hb18 h
    refine ht_exit ?_
    refine pt_x_then ?_
    refine pt_x_then ?_
    refine pt_x_in ?_
    refine pt_pick [] (by kernel_rfl) (es':=[]) rfl ?_
    exact hl13 _ (ho15 _ (zi h).symm).symm
theorem ok_path_label (s:ByteArray) (r:Bool) (h:Sh.path_label s=some r):FnOK Tryz.prog 110 [.v (.string s)] (.v (.bool r)):=by
  unfold Sh.path_label at h
  refine yO 27 func110 fun g0 hn hio => ?_
  refine yyy hn 1 [0] ?_
  refine ht_seq ?_
  refine ht_joinS h (fun (s5:Bool)=>[(2,vb s5)]) ?_ ?_
  ·rintro s5 h
   refine pt_then (ht_ret ?_)
   obtain rfl:=zi h
   exact pt_ret hio rfl (.tmp _ _ .nil) rfl rfl
  ·intro u6 h hl7 hr8
   refine cond_some h (fun hg1_2 h => ?_) (fun hg1_2 h => ?_)
   ·refine cond_some h (fun hg1_7 h => ?_) (fun hg1_7 h => ?_)
    ·obtain ⟨v1, hv1, h⟩:=zn h
     refine cond_some h (fun hg1_12 h => ?_) (fun hg1_12 h => ?_)
     ·obtain ⟨v2, hv2, h⟩:=zn h
      obtain ⟨v3, hv3, h⟩:=zn h
      refine cond_some h (fun hg1_20 h => ?_) (fun hg1_20 h => ?_)
      ·obtain ⟨v4, hv4, h⟩:=zn h
       refine yx hn 3 ?_
       refine yd hg1_2 5 ?_
       refine yd hg1_7 1 ?_
       refine ys 3 ⟨lh hv1⟩ ?_
       refine yd hg1_12 3 ?_
       refine ys 0 ⟨lb hv2⟩ ?_
       refine ys 3 ⟨lh hv3⟩ ?_
       refine yd hg1_20 1 ?_
       refine ys 2 ⟨lk call136 (ok_path_all_of_path_label_1 _ _ hv4)⟩ ?_
       refine ye [2] ?_
       exact hl7 _ (zi h).symm
      ·refine yx hn 3 ?_
       refine yd hg1_2 5 ?_
       refine yd hg1_7 1 ?_
       refine ys 3 ⟨lh hv1⟩ ?_
       refine yd hg1_12 3 ?_
       refine ys 0 ⟨lb hv2⟩ ?_
       refine ys 3 ⟨lh hv3⟩ ?_
       refine yd hg1_20 4 ?_
       refine ye [2] ?_
       exact hl7 _ (zi h).symm
     ·refine yx hn 3 ?_
      refine yd hg1_2 5 ?_
      refine yd hg1_7 1 ?_
      refine ys 3 ⟨lh hv1⟩ ?_
      refine yd hg1_12 12 ?_
      refine ye [2] ?_
      exact hl7 _ (zi h).symm
    ·refine yx hn 3 ?_
     refine yd hg1_2 5 ?_
     refine yd hg1_7 17 ?_
     refine ye [2] ?_
     exact hl7 _ (zi h).symm
   ·refine yx hn 3 ?_
    refine yd hg1_2 22 ?_
    refine ye [2] ?_
    exact hl7 _ (zi h).symm
theorem ok_path_dotted_of_path_label (mx:Int) (s:ByteArray) (r:Bool) (h:Sh.path_dotted_of_path_label s=some r):FnG Tryz.prog (GL mx) 108 [.v (.string s), .v (.func (.func 110) #[] #[])] (.v (.bool r)):=by
  unfold Sh.path_dotted_of_path_label at h
  refine yG 13 func108 fun g0 hn hio => ?_
  refine yxx hn 1 ?_
  refine yS (.box 4 [vb false]) 0 ⟨oA (op_alloc _ _ zr4)⟩ ?_
  refine yee [0,13,3,4] ?_
  refine ht_seq ?_
  refine ht_seq ?_
  obtain ⟨v1, hv1, h⟩:=zn h
  refine yx hn 1 ?_
  refine yk [] [6] ?_
  refine yt (7,.cloB 161 [.box 9 [vs v1.1],.box 9 [vs v1.2.1],.box 3 [vi v1.2.2]]) 0 ⟨op_callS _ _ 135 _ _ rfl call135 rfl rfl (ok_strings_SplitSeq s (⟨#[46]⟩:ByteArray) _ hv1) rfl⟩ ?_
  refine yee [13,3,4,7] ?_
  refine ht_block ?_
  refine ht_pick [3,0,1,2] (by kernel_rfl) (es':=[(7,.cloB 161 [.box 9 [vs v1.1],.box 9 [vs v1.2.1],.box 3 [vi v1.2.2]]),(13,.glob (GL mx)),(3,.box 125 [.v (.func (.func 110) #[] #[])]),(4,.box 4 [vb false])]) rfl ?_
  refine ht_rangeF h 161 7 8 14 _ [13, 3, 4] call161 (fun (():Unit)=>[(13, .glob (GL mx)), (3, .box 125 [.v (.func (.func 110) #[] #[])]), (4, .box 4 [.v (.bool false)])]) (fun (():Unit)=>[(13, .glob (GL mx)), (3, .box 125 [.v (.func (.func 110) #[] #[])]), (4, .box 4 [.v (.bool false)])]) (fun l J Y hY t t' h=>ok_strings_splitSeq_1 mx l J Y hY v1.1 v1.2.1 v1.2.2 t t' h) hn rfl (fun _=>rfl) (fun _=>rfl) (fun _=>rfl) rfl rfl (fun _=>⟨rfl, rfl⟩) rfl (glIn_look 13 rfl) ?_ ?_ ?_
  ·rintro kk g0 hn hio x ⟨⟩ u h
   refine ht_es (es':=[(8,vs x),(13,.glob (GL mx)),(3,.box 125 [.v (.func (.func 110) #[] #[])]),(4,.box 4 [vb false]),(13,.v (kk.tm.getD 13 undef)),(3,.v (kk.tm.getD 3 undef)),(4,.v (kk.tm.getD 4 undef)),(14,.inv kk.ready)]) rfl ?_
   refine yy hn 1 [13,3,4,14,5,13,3,4] ?_
   refine pt_pick [0,1,2,4,5,6,7,3] (by kernel_rfl) (es':=[(13,.glob (GL mx)),(3,.box 125 [.v (.func (.func 110) #[] #[])]),(4,.box 4 [vb false]),(5,vs x),(13,.v (kk.tm.getD 13 undef)),(3,.v (kk.tm.getD 3 undef)),(4,.v (kk.tm.getD 4 undef)),(14,.inv kk.ready)]) rfl ?_
   refine pt_begin (es:=[(13,.glob (GL mx)),(3,.box 125 [.v (.func (.func 110) #[] #[])]),(4,.box 4 [vb false]),(5,vs x),(13,.v (kk.tm.getD 13 undef)),(3,.v (kk.tm.getD 3 undef)),(4,.v (kk.tm.getD 4 undef))]) 14 rfl ?_
   refine ht_block ?_
   refine ht_seq ?_
   obtain ⟨v2, hv2, h⟩:=zn h
   refine yx hn 2 ?_
   refine ys 1 ⟨lk call110 (ok_path_label _ _ hv2)⟩ ?_
   refine yee [13,3,4,14,12,13,3,4] ?_
   refine ht_cond _ rfl (fun hb5 => ?_) (fun hb5 => ?_)
   ·have h:=cond_t hb5 h
    refine yyy hn 1 [13,3,4,14,13,3,4] ?_
    refine ht_ret ?_
    refine pt_r_in ?_
    refine pt_pick [0,1,2,4,5,6,3] (by kernel_rfl) (es':=[(_,_),(_,_),(_,_),(_,_),(_,_),(_,_),(_,_)]) rfl ?_
    obtain rfl:=zi h
    exact pt_rret 14 [13, 3, 4] _ rfl rfl (by kernel_rfl)
   ·have h:=cond_f hb5 h
    refine ht_skip ?_
    refine pt_inb ?_
    refine pt_pick [0,1,2,5,6,7,3] (by kernel_rfl) (es':=[(_,_),(_,_),(_,_),(_,_),(_,_),(_,_),(_,_)]) rfl ?_
    obtain rfl:=zi h
    exact pt_rnext 14 [13, 3, 4] _ rfl rfl (by kernel_rfl)
  ·rintro D ⟨⟩ h
   refine pt_inb ?_
   refine pt_then ?_
   refine yyy hn 1 [13,4] ?_
   refine ht_ret ?_
   refine pt_pick [1] (by kernel_rfl) (es':=[(_,_)]) rfl ?_
   obtain rfl:=zi h
   exact pt_ret hio rfl (.cell1 _ _ _ _ underlying4 rfl .nil) rfl rfl
  ·rintro D ⟨⟩ h
   refine pt_pick [2] (by kernel_rfl) (es':=[(_,_)]) rfl ?_
   refine pt_r_in ?_
   refine pt_r_then ?_
   obtain rfl:=zi h
   exact pt_ret hio rfl (.cell1 _ _ _ _ underlying4 rfl .nil) rfl rfl
theorem ok_path_Domain (mx:Int) (s:ByteArray) (r:Bool) (h:Sh.path_Domain s=some r):FnG Tryz.prog (GL mx) 88 [.v (.string s)] (.v (.bool r)):=by
  unfold Sh.path_Domain at h
  refine yG 10 func88 fun g0 hn hio => ?_
  refine yyy hn 1 [0,10] ?_
  refine ht_seq ?_
  refine ht_joinS h (fun (s2:Bool)=>[(10,.glob (GL mx)),(2,vb s2)]) ?_ ?_
  ·rintro s2 h
   refine pt_then (ht_ret ?_)
   refine pt_pick [1] (by kernel_rfl) (es':=[(_,_)]) rfl ?_
   obtain rfl:=zi h
   exact pt_ret hio rfl (.tmp _ _ .nil) rfl rfl
  ·intro u3 h hl4 hr5
   refine cond_some h (fun hg1_3 h => ?_) (fun hg1_3 h => ?_)
   ·obtain ⟨v1, hv1, h⟩:=zn h
    refine yx hn 4 ?_
    refine yd hg1_3 1 ?_
    refine ys 2 ⟨lg call108 (ok_path_dotted_of_path_label _ _ _ hv1) 10⟩ ?_
    refine ye [10,2] ?_
    exact hl4 _ (zi h).symm
   ·refine yx hn 4 ?_
    refine yd hg1_3 4 ?_
    refine ye [10,2] ?_
    exact hl4 _ (zi h).symm
theorem ok_path_Check (mx:Int) (p:T_Path) (r:Int) (h:Sh.path_Check p=some r):FnG Tryz.prog (GL mx) 68 [.agg [.v (.bool p.Null), .v (.string p.Local), .v (.string p.Domain)]] (.v (.int .i64 r)):=by
  unfold Sh.path_Check at h
  refine yG 27 func68 fun g0 hn hio => ?_
  refine yyy hn 2 [27,1] ?_
  refine yxx hn 1 ?_
  refine yS (.agg [vb true,vs z0,vs z0]) 0 ⟨op_build _ _ _ _ [1,1,1] _ _ underlying43 zr43 (fs43 _ underlying43) (.copy _ Src.nil) rfl rfl rfl⟩ ?_
  refine yS (vb ((p.Null==true)&&((p.Local.toList==z0.toList)&&((p.Domain.toList==z0.toList)&&true)))) 1 ⟨op_eq_st _ _ [.bool p.Null,.string p.Local,.string p.Domain] [.bool true,.string z0,.string z0] (((p.Null==true)&&((p.Local.toList==z0.toList)&&((p.Domain.toList==z0.toList)&&true)))) _ false (by kernel_rfl) (by kernel_rfl) (by kernel_rfl) (by kernel_rfl) (by kernel_rfl) rfl rfl rfl rfl (by kernel_rfl) rfl⟩ ?_
  refine yee [27,1,3] ?_
  refine ht_seq ?_
  refine ht_joinS h (fun (s3:Bool)=>[(27,.glob (GL mx)),(3,vb ((p.Null==true)&&((p.Local.toList==z0.toList)&&((p.Domain.toList==z0.toList)&&true)))),(4,vb s3)]) ?_ ?_
  ·rintro s3 h
   refine pt_then (ht_seq ?_)
   refine ht_seq ?_
   refine ht_joinS h (fun (s7:Bool)=>[(27,.glob (GL mx)),(26,vb s7)]) ?_ ?_
   ·rintro s7 h
    refine pt_then ?_
    refine ht_cond _ rfl (fun hb11 => ?_) (fun hb11 => ?_)
    ·have h:=cond_t hb11 h
     refine yyy hn 1 [27,2] ?_
     refine ht_ret ?_
     refine pt_pick [1] (by kernel_rfl) (es':=[(_,_)]) rfl ?_
     refine pt_r_then ?_
     obtain rfl:=zi h
     exact pt_ret hio rfl (.tmp _ _ .nil) rfl rfl
    ·have h:=cond_f hb11 h
     refine ht_skip ?_
     refine pt_then ?_
     refine yyy hn 1 [27,2] ?_
     refine ht_ret ?_
     refine pt_pick [1] (by kernel_rfl) (es':=[(_,_)]) rfl ?_
     obtain rfl:=zi h
     exact pt_ret hio rfl (.tmp _ _ .nil) rfl rfl
   ·intro u8 h hl9 hr10
    refine cond_some h (fun hg3_2 h => ?_) (fun hg3_2 h => ?_)
    ·refine yx hn 3 ?_
     refine yd hg3_2 3 ?_
     refine ye [27,26] ?_
     exact hl9 _ (zi h).symm
    ·refine yx hn 3 ?_
     refine yd hg3_2 3 ?_
     refine ye [27,26] ?_
     exact hl9 _ (zi h).symm
  ·intro u4 h hl5 hr6
   refine cond_some h (fun hg2_3 h => ?_) (fun hg2_3 h => ?_)
   ·obtain ⟨v1, hv1, h⟩:=zn h
    refine cond_some h (fun hg2_8 h => ?_) (fun hg2_8 h => ?_)
    ·obtain ⟨v2, hv2, h⟩:=zn h
     refine yx hn 4 ?_
     refine yd hg2_3 2 ?_
     refine ys 2 ⟨lg call87 (ok_path_local _ _ _ hv1) 27⟩ ?_
     refine yd hg2_8 2 ?_
     refine ys 2 ⟨lg call88 (ok_path_Domain _ _ _ hv2) 27⟩ ?_
     refine ye [27,3,4] ?_
     exact hl5 _ (zi h).symm
    ·refine yx hn 4 ?_
     refine yd hg2_3 2 ?_
     refine ys 2 ⟨lg call87 (ok_path_local _ _ _ hv1) 27⟩ ?_
     refine yd hg2_8 5 ?_
     refine ye [27,3,4] ?_
     exact hl5 _ (zi h).symm
   ·refine yx hn 4 ?_
    refine yd hg2_3 10 ?_
    refine ye [27,3,4] ?_
    exact hl5 _ (zi h).symm
theorem ok_path_Parse (mx:Int) (s:ByteArray) (r:(T_Path×Int)) (h:Sh.path_Parse s=some r):FnG Tryz.prog (GL mx) 102 [.v (.string s)] (.tup [.agg [.v (.bool r.1.Null), .v (.string r.1.Local), .v (.string r.1.Domain)], .v (.int .i64 r.2)]):=by
  unfold Sh.path_Parse at h
  refine yG 50 func102 fun g0 hn hio => ?_
  refine yxx hn 0 ?_
  refine yS (.box 43 [vb false,vs z0,vs z0]) 1 ⟨oA (op_alloc _ _ zr43)⟩ ?_
  refine yee [0,50,2] ?_
  refine ht_seq ?_
  refine yyy hn 2 [0,50,2,12] ?_
  refine ht_cond _ rfl (fun hb1 => ?_) (fun hb1 => ?_)
  ·have h:=cond_t hb1 h
   refine yxx hn 0 ?_
   refine yS (.agg [vb true,vs z0,vs z0]) 2 ⟨op_build _ _ _ _ [1,1,1] _ _ underlying43 zr43 (fs43 _ underlying43) (.copy _ Src.nil) rfl rfl rfl⟩ ?_
   refine yee [50,2,3] ?_
   refine ht_ret ?_
   refine pt_pick [1,2] (by kernel_rfl) (es':=[(_,_),(_,_)]) rfl ?_
   refine pt_r_then ?_
   obtain rfl:=zi h
   exact pt_ret hio rfl (.cellA _ _ _ _ underlying43 rfl sz43 (.tmp _ _ .nil)) rfl rfl
  ·have h:=cond_f hb1 h
   refine ht_skip ?_
   refine pt_then (ht_seq ?_)
   obtain ⟨v2, hv2, h⟩:=zn h
   refine yx hn 1 ?_
   refine ys 0 ⟨lk call101 (ok_strings_CutPrefix _ _ _ hv2)⟩ ?_
   refine ym 4 ?_
   refine yee [50,2,4,5] ?_
   refine ht_seq ?_
   obtain ⟨v3, hv3, h⟩:=zn h
   refine yx hn 1 ?_
   refine ys 0 ⟨lk call126 (ok_strings_CutSuffix _ _ _ hv3)⟩ ?_
   refine ym 2 ?_
   refine yw [4] 2 ?_
   refine yee [50,2,5,4,6] ?_
   refine ht_seq ?_
   obtain ⟨v4, hv4, h⟩:=zn h
   refine yx hn 1 ?_
   refine ys 0 ⟨lk call127 (ok_strings_Cut _ _ _ hv4)⟩ ?_
   refine ym 6 ?_
   refine yee [50,2,5,6,7,8,9] ?_
   refine yxx hn 2 ?_
   refine yS (.agg [vb false,vs v4.1,vs v4.2.1]) 0 ⟨op_build _ _ _ _ [1,1,1] _ _ underlying43 zr43 (fs43 _ underlying43) (.copy _ (.copy _ Src.nil)) rfl rfl rfl⟩ ?_
   refine yS (.box 43 [vb false,vs z0,vs z0]) 1 ⟨oA (op_alloc _ _ zr43)⟩ ?_
   refine yee [50,2,5,6,9,10] ?_
   refine ht_seq ?_
   refine ht_seq ?_
   refine ht_joinS h (fun (s6:Bool)=>[(50,.glob (GL mx)),(2,.box 43 [vb false,vs z0,vs z0]),(10,.box 43 [vb false,vs v4.1,vs v4.2.1]),(47,vb s6)]) ?_ ?_
   ·rintro s6 h
    refine pt_then ?_
    refine ht_cond _ rfl (fun hb10 => ?_) (fun hb10 => ?_)
    ·have h:=cond_t hb10 h
     refine yxx hn 0 ?_
     refine yS (.agg [vb false,vs z0,vs z0]) 0 ⟨op_build _ _ _ _ [1,1,1] _ _ underlying43 zr43 (fs43 _ underlying43) Src.nil rfl rfl rfl⟩ ?_
     refine yk [48,2] [] ?_
     refine yt (2,.box 43 [vb false,vs z0,vs z0]) 1 ⟨op_store_self _ _ _ 48 2 3 sz43 rfl rfl rfl rfl rfl (.eq _ (.eq _ (.eq _ (.nil _)))) rfl⟩ ?_
     refine yee [50,2,3] ?_
     refine ht_ret ?_
     refine pt_pick [1,2] (by kernel_rfl) (es':=[(_,_),(_,_)]) rfl ?_
     refine pt_r_then ?_
     obtain rfl:=zi h
     exact pt_ret hio rfl (.cellA _ _ _ _ underlying43 rfl sz43 (.tmp _ _ .nil)) rfl rfl
    ·have h:=cond_f hb10 h
     refine ht_skip ?_
     refine pt_then ?_
     refine yyy hn 3 [50,2,3] ?_
     refine ht_ret ?_
     refine pt_pick [1,2] (by kernel_rfl) (es':=[(_,_),(_,_)]) rfl ?_
     obtain rfl:=zi h
     exact pt_ret hio rfl (.cellA _ _ _ _ underlying43 rfl sz43 (.tmp _ _ .nil)) rfl rfl
   ·intro u7 h hl8 hr9
    refine cond_some h (fun hg7_2 h => ?_) (fun hg7_2 h => ?_)
    ·refine yx hn 3 ?_
     refine yd hg7_2 12 ?_
     refine ye [50,2,10,47] ?_
     exact hl8 _ (zi h).symm
    ·refine cond_some h (fun hg7_6 h => ?_) (fun hg7_6 h => ?_)
     ·refine yx hn 3 ?_
      refine yd hg7_2 4 ?_
      refine yd hg7_6 8 ?_
      refine ye [50,2,10,47] ?_
      exact hl8 _ (zi h).symm
     ·refine cond_some h (fun hg7_10 h => ?_) (fun hg7_10 h => ?_)
      ·refine yx hn 3 ?_
       refine yd hg7_2 4 ?_
       refine yd hg7_6 4 ?_
       refine yd hg7_10 4 ?_
       refine ye [50,2,10,47] ?_
       exact hl8 _ (zi h).symm
      ·obtain ⟨v5, hv5, h⟩:=zn h
       refine yx hn 3 ?_
       refine yd hg7_2 4 ?_
       refine yd hg7_6 4 ?_
       refine yd hg7_10 1 ?_
       refine ys 2 ⟨lg call68 (ok_path_Check _ _ _ hv5) 50⟩ ?_
       refine ye [50,2,10,47] ?_
       exact hl8 _ (zi h).symm
theorem ok_bytes_Equal (a:(List Int)) (b:(List Int)) (r:Bool) (h:Sh.bytes_Equal a b=some r):FnOK Tryz.prog 37 [.fl .shr 1 (map (int .u8) a), .fl .shr 1 (map (int .u8) b)] (.v (.bool r)):=by
  unfold Sh.bytes_Equal at h
  refine yO 10 func37 fun g0 hn hio => ?_
  refine yyy hn 1 [0,1] ?_
  refine ht_seq ?_
  obtain ⟨v1, hv1, h⟩:=zn h
  obtain ⟨v2, hv2, h⟩:=zn h
  refine yx hn 1 ?_
  refine ys 1 ⟨lS hv1⟩ ?_
  refine ys 2 ⟨lS hv2⟩ ?_
  refine yee [4] ?_
  refine ht_ret ?_
  obtain rfl:=zi h
  exact pt_ret hio rfl (.tmp _ _ .nil) rfl rfl
theorem ok_bytes_HasPrefix (s:(List Int)) (prefix_:(List Int)) (r:Bool) (h:Sh.bytes_HasPrefix s prefix_=some r):FnOK Tryz.prog 70 [.fl .shr 1 (map (int .u8) s), .fl .shr 1 (map (int .u8) prefix_)] (.v (.bool r)):=by
  unfold Sh.bytes_HasPrefix at h
  refine yO 18 func70 fun g0 hn hio => ?_
  refine yyy hn 1 [0,1] ?_
  refine ht_seq ?_
  refine ht_joinS h (fun (s3:Bool)=>[(4,vb s3)]) ?_ ?_
  ·rintro s3 h
   refine pt_then (ht_ret ?_)
   obtain rfl:=zi h
   exact pt_ret hio rfl (.tmp _ _ .nil) rfl rfl
  ·intro u4 h hl5 hr6
   refine cond_some h (fun hg1_5 h => ?_) (fun hg1_5 h => ?_)
   ·obtain ⟨v1, hv1, h⟩:=zn h
    obtain ⟨v2, hv2, h⟩:=zn h
    refine yx hn 6 ?_
    refine yd hg1_5 3 ?_
    refine yS (fb v1) 1 ⟨op_sl _ _ _ 0 (prefix_.length:Int) _ underlying25 sz5 rfl rfl rfl ⟨_,rfl⟩ hv1⟩ ?_
    refine ys 2 ⟨lk call37 (ok_bytes_Equal _ _ _ hv2)⟩ ?_
    refine ye [4] ?_
    exact hl5 _ (zi h).symm
   ·refine yx hn 6 ?_
    refine yd hg1_5 8 ?_
    refine ye [4] ?_
    exact hl5 _ (zi h).symm
theorem ok_dots_lines (b:(List Int)) (r:(List Int)) (h:Sh.dots_lines b=some r):FnOK Tryz.prog 69 [.fl .shr 1 (map (int .u8) b)] (.cloB 89 [.box 25 [.fl .shr 1 (map (int .u8) r)]]):=by
  unfold Sh.dots_lines at h
  refine yO 4 func69 fun g0 hn hio => ?_
  refine yyy hn 2 [1] ?_
  refine yxx hn 0 ?_
  refine yk [1] [] ?_
  refine yt (3,.cloB 89 [.box 25 [fb b]]) 0 ⟨op_mkclo _ _ [1] [.box 25 [fb b]] rfl rfl rfl⟩ ?_
  refine ya 0 ?_
  refine yee [2] ?_
  refine ht_ret ?_
  obtain rfl:=zi h
  exact pt_ret hio rfl (.tmp _ _ .nil) rfl rfl
theorem ok_dots_lines_1 (mx:Int) (l:Nat) {S:Type} (J:S→InvT) (Y:(List Int)→S→Option (S×Bool)) (hY:YieldOK Tryz.prog l (fun x => .fl .shr 1 (map (int .u8) x)) Y J) (c0:(List Int)) (st r:S) (h:Sh.dots_lines_1 Y c0 st=some r):FnI Tryz.prog (GL mx) 89 l [.box 25 [.fl .shr 1 (map (int .u8) c0)]] (J st) (J r):=by
  unfold Sh.dots_lines_1 at h
  refine yI 23 func89 fun g0 hn hio => ?_
  refine ht_loopS h (fun ((s17,s18):(List Int)×S)=>[(0,.v (.func (.yield l) #[] #[])),(1,.box 25 [fb s17]),(23,.glob (GL mx)),(24,.inv (J s18))]) (fun (():Unit)=>[]) ?_ ?_
  ·rintro ⟨⟩ h
   cases h
  ·rintro u25 hl26 hr27 ⟨s17, s18⟩ rr30 h ho28
   refine ht_block ?_
   refine ht_seq ?_
   obtain ⟨v1, hv1, h⟩:=zn h
   refine yx hn 1 ?_
   refine yS (.fl (.own 5) 1 (map (int .u8) [13,10])) 0 ⟨op_buildSlice _ _ 1 (.int .u8 0) (map (int .u8) [13,10]) [(0,.int .u8 13),(1,.int .u8 10)] underlying25 sz5 zr5 (fun _ V w o a hv hes=>by simp only [List.map_toArray,List.map_cons,List.map_nil]; try rfl) (litfill (by simp [Instr.fill,Value.cells]; rfl) (by simp [List.range,List.range.loop] <;> rfl)) (by simp [Value.oneCell']) rfl (by decide) (by decide) (by decide)⟩ ?_
   refine yk [8] [] ?_
   refine yt (9,.fl .ro 1 (map (int .u8) [13,10])) 0 ⟨op_conv_mark _ _ _ underlying25 underlying5 (by intro h; cases h)⟩ ?_
   refine yk [] [7,9,23] ?_
   refine yt (10,.tup [fb v1.1,fb v1.2.1,vb v1.2.2]) 0 ⟨op_callSG _ _ 23 34 _ _ rfl call34 rfl rfl rfl (fun _ h=>h) (ok_bytes_Cut_sh mx s17 [13,10] _ hv1) rfl⟩ ?_
   refine ym 6 ?_
   refine yee [0,1,23,24,3,4,5] ?_
   refine ht_seq ?_
   refine ht_seq ?_
   refine ht_joinS h (fun ((s31,s32):S×Bool)=>[(0,.v (.func (.yield l) #[] #[])),(1,.box 25 [fb s17]),(23,.glob (GL mx)),(24,.inv (J s31)),(4,fb v1.2.1),(21,vb s32)]) ?_ ?_
   ·rintro ⟨s31, s32⟩ h
    refine pt_then ?_
    refine ht_cond _ rfl (fun hb36 => ?_) (fun hb36 => ?_)
    ·have h:=cond_t hb36 h
     refine ht_ret ?_
     refine pt_pick [3] (by kernel_rfl) (es':=[(24,.inv (J s31))]) rfl ?_
     refine pt_r_then ?_
     refine pt_r_in ?_
     refine pt_r_then ?_
     refine pt_r_in ?_
     have h:=hr27 _ (ho28 _ (zi h).symm).symm
     obtain rfl:=zi h
     exact pt_retI hio rfl rfl rfl
    ·have h:=cond_f hb36 h
     refine ht_skip ?_
     refine pt_then ?_
     refine yy hn 2 [0,1,23,24] ?_
     refine pt_inb ?_
     exact pt_next _ (zi h).symm rfl
   ·intro u33 h hl34 hr35
    refine cond_some h (fun hg1_2 h => ?_) (fun hg1_2 h => ?_)
    ·refine yx hn 3 ?_
     refine yd hg1_2 5 ?_
     refine ye [0,1,23,24,4,21] ?_
     exact hl34 _ (zi h).symm
    ·obtain ⟨v2, hv2, h⟩:=zn h
     refine yx hn 3 ?_
     refine yd hg1_2 2 ?_
     refine yk [24] [18,17] ?_
     refine ytt (24,.inv (J v2.1)) (19,vb v2.2) 2 ⟨op_yield _ _ 24 l v1.1 s18 v2 hY hv2 rfl rfl rfl⟩ ?_
     refine ye [0,1,23,24,4,21] ?_
     exact hl34 _ (zi h).symm
end Go.Proofs.YtglabbpbianmnaaGreatDoor
