/-
  The model's runs are what is told in Lean.
-/
import Derived.Test.YtofbofdggabfiaaGreatDoorProg
import Derived.KernelRfl
import Derived.Test.YtofbofdggabfiaaGreatDoorShelf
import Derived.Test.YtofbofdggabfiaaGreatDoorB3
import Derived.Test.YtofbofdggabfiaaGreatDoorC1
import Derived.Test.YtofbofdggabfiaaGreatDoorOkc3
set_option linter.unusedVariables false
set_option linter.unusedSimpArgs false
set_option maxHeartbeats 1000000
namespace Go.Proofs.YtofbofdggabfiaaGreatDoor
open Go.Abs Go.Abs.Sh Tryz
open List (map flatten)
open Value (int)
theorem ok_wherryref11_Text (p:T_Path) (r:ByteArray) (h:Sh.wherryref11_Text p=some r):FnOK Tryz.prog 59 [.agg [.v (.bool p.Null), .v (.string p.Local), .v (.string p.Domain)]] (.v (.string r)):=by
  unfold Sh.wherryref11_Text at h
  refine yO 13 func59 fun g0 hn hio => ?_
  refine yyy hn 2 [1] ?_
  refine ht_seq ?_
  refine yyy hn 2 [1,4] ?_
  refine ht_cond _ rfl (fun hb1 => ?_) (fun hb1 => ?_)
  ·have h:=cond_t hb1 h
   refine yyy hn 1 [2] ?_
   refine ht_ret ?_
   refine pt_r_then ?_
   obtain rfl:=zi h
   exact pt_ret hio rfl (.tmp _ _ .nil) rfl rfl
  ·have h:=cond_f hb1 h
   refine ht_skip ?_
   refine pt_then (ht_seq ?_)
   obtain ⟨v2, hv2, h⟩:=zn h
   obtain ⟨v3, hv3, h⟩:=zn h
   obtain ⟨v4, hv4, h⟩:=zn h
   obtain ⟨v5, hv5, h⟩:=zn h
   refine yx hn 2 ?_
   refine ys 0 ⟨lB (cat_ok hv2)⟩ ?_
   refine ys 2 ⟨lB (cat_ok hv3)⟩ ?_
   refine ys 0 ⟨lB (cat_ok hv4)⟩ ?_
   refine ys 1 ⟨lB (cat_ok hv5)⟩ ?_
   refine yee [2] ?_
   refine ht_ret ?_
   obtain rfl:=zi h
   exact pt_ret hio rfl (.tmp _ _ .nil) rfl rfl
theorem ok_wherryref11_Report (site:ByteArray) (sender:T_Path) (rcpt:T_Path) (r:(List Int)) (h:Sh.wherryref11_Report site sender rcpt=some r):FnOK Tryz.prog 41 [.v (.string site), .agg [.v (.bool sender.Null), .v (.string sender.Local), .v (.string sender.Domain)], .agg [.v (.bool rcpt.Null), .v (.string rcpt.Local), .v (.string rcpt.Domain)]] (.mkr 5 (map (int .u8) r)):=by
  unfold Sh.wherryref11_Report at h
  refine yO 41 func41 fun g0 hn hio => ?_
  refine yyy hn 3 [0,4,5] ?_
  refine ht_seq ?_
  obtain ⟨v1, hv1, h⟩:=zn h
  obtain ⟨v2, hv2, h⟩:=zn h
  obtain ⟨v3, hv3, h⟩:=zn h
  obtain ⟨v4, hv4, h⟩:=zn h
  obtain ⟨v5, hv5, h⟩:=zn h
  obtain ⟨v6, hv6, h⟩:=zn h
  obtain ⟨v7, hv7, h⟩:=zn h
  obtain ⟨v8, hv8, h⟩:=zn h
  obtain ⟨v9, hv9, h⟩:=zn h
  obtain ⟨v10, hv10, h⟩:=zn h
  refine wb [[0]] ?_
  refine wN [10] ?_
  refine wo [] ⟨lB (cat_ok hv1)⟩ ?_
  refine wN [11] ?_
  refine wo [[4]] ⟨lB (cat_ok hv2)⟩ ?_
  refine wN [13] ?_
  refine wo [] ⟨lk call59 (ok_wherryref11_Text _ _ hv3)⟩ ?_
  refine wN [14] ?_
  refine wo [[5]] ⟨lB (cat_ok hv4)⟩ ?_
  refine wN [16] ?_
  refine wo [] ⟨lk call59 (ok_wherryref11_Text _ _ hv5)⟩ ?_
  refine wN [17] ?_
  refine wo [] ⟨lB (cat_ok hv6)⟩ ?_
  refine wN [18] ?_
  refine wo [[0]] ⟨lB (cat_ok hv7)⟩ ?_
  refine wN [20] ?_
  refine wo [[5]] ⟨lB (cat_ok hv8)⟩ ?_
  refine wN [22] ?_
  refine wo [] ⟨lk call59 (ok_wherryref11_Text _ _ hv9)⟩ ?_
  refine wN [23] ?_
  refine wo [] ⟨lB (cat_ok hv10)⟩ ?_
  refine wN [12,15,19,21,24] ?_
  refine wS (.fl (.own 9) 1 (map Value.string ([v2,v4,(⟨#[83,117,98,106,101,99,116,58,32,85,110,100,101,108,105,118,101,114,101,100,32,109,97,105,108]⟩:ByteArray),(⟨#[67,111,110,116,101,110,116,45,84,121,112,101,58,32,109,117,108,116,105,112,97,114,116,47,114,101,112,111,114,116,59,32,114,101,112,111,114,116,45,116,121,112,101,61,100,101,108,105,118,101,114,121,45,115,116,97,116,117,115,59,32,98,111,117,110,100,97,114,121,61,119]⟩:ByteArray),z0,(⟨#[45,45,119]⟩:ByteArray),(⟨#[67,111,110,116,101,110,116,45,84,121,112,101,58,32,116,101,120,116,47,112,108,97,105,110]⟩:ByteArray),z0,v7,(⟨#[45,45,119]⟩:ByteArray),(⟨#[67,111,110,116,101,110,116,45,84,121,112,101,58,32,109,101,115,115,97,103,101,47,100,101,108,105,118,101,114,121,45,115,116,97,116,117,115]⟩:ByteArray),z0,v8,z0,v10,(⟨#[65,99,116,105,111,110,58,32,102,97,105,108,101,100]⟩:ByteArray),(⟨#[83,116,97,116,117,115,58,32,52,46,52,46,55]⟩:ByteArray),(⟨#[45,45,119,45,45]⟩:ByteArray)]))) [] ⟨op_buildSlice _ _ 1 (.string ByteArray.empty) (map Value.string ([v2,v4,(⟨#[83,117,98,106,101,99,116,58,32,85,110,100,101,108,105,118,101,114,101,100,32,109,97,105,108]⟩:ByteArray),(⟨#[67,111,110,116,101,110,116,45,84,121,112,101,58,32,109,117,108,116,105,112,97,114,116,47,114,101,112,111,114,116,59,32,114,101,112,111,114,116,45,116,121,112,101,61,100,101,108,105,118,101,114,121,45,115,116,97,116,117,115,59,32,98,111,117,110,100,97,114,121,61,119]⟩:ByteArray),z0,(⟨#[45,45,119]⟩:ByteArray),(⟨#[67,111,110,116,101,110,116,45,84,121,112,101,58,32,116,101,120,116,47,112,108,97,105,110]⟩:ByteArray),z0,v7,(⟨#[45,45,119]⟩:ByteArray),(⟨#[67,111,110,116,101,110,116,45,84,121,112,101,58,32,109,101,115,115,97,103,101,47,100,101,108,105,118,101,114,121,45,115,116,97,116,117,115]⟩:ByteArray),z0,v8,z0,v10,(⟨#[65,99,116,105,111,110,58,32,102,97,105,108,101,100]⟩:ByteArray),(⟨#[83,116,97,116,117,115,58,32,52,46,52,46,55]⟩:ByteArray),(⟨#[45,45,119,45,45]⟩:ByteArray)])) [(0,.string v2),(1,.string v4),(2,.string (⟨#[83,117,98,106,101,99,116,58,32,85,110,100,101,108,105,118,101,114,101,100,32,109,97,105,108]⟩:ByteArray)),(3,.string (⟨#[67,111,110,116,101,110,116,45,84,121,112,101,58,32,109,117,108,116,105,112,97,114,116,47,114,101,112,111,114,116,59,32,114,101,112,111,114,116,45,116,121,112,101,61,100,101,108,105,118,101,114,121,45,115,116,97,116,117,115,59,32,98,111,117,110,100,97,114,121,61,119]⟩:ByteArray)),(4,.string ByteArray.empty),(5,.string (⟨#[45,45,119]⟩:ByteArray)),(6,.string (⟨#[67,111,110,116,101,110,116,45,84,121,112,101,58,32,116,101,120,116,47,112,108,97,105,110]⟩:ByteArray)),(7,.string ByteArray.empty),(8,.string v7),(9,.string (⟨#[45,45,119]⟩:ByteArray)),(10,.string (⟨#[67,111,110,116,101,110,116,45,84,121,112,101,58,32,109,101,115,115,97,103,101,47,100,101,108,105,118,101,114,121,45,115,116,97,116,117,115]⟩:ByteArray)),(11,.string ByteArray.empty),(12,.string v8),(13,.string ByteArray.empty),(14,.string v10),(15,.string (⟨#[65,99,116,105,111,110,58,32,102,97,105,108,101,100]⟩:ByteArray)),(16,.string (⟨#[83,116,97,116,117,115,58,32,52,46,52,46,55]⟩:ByteArray)),(17,.string (⟨#[45,45,119,45,45]⟩:ByteArray))] underlying105 sz9 zr9 (fun _ V w o a hv hes=>by have e0:=rd_v hv hes (x := .tmp 12) rfl; have e1:=rd_v hv hes (x := .tmp 15) rfl; have e8:=rd_v hv hes (x := .tmp 19) rfl; have e12:=rd_v hv hes (x := .tmp 21) rfl; have e14:=rd_v hv hes (x := .tmp 24) rfl; simp only [List.map_toArray,List.map_cons,List.map_nil,e0,e1,e8,e12,e14]; try rfl) (litfill (by simp [Instr.fill,Value.cells]; rfl) (by simp [List.range,List.range.loop] <;> rfl)) (by simp [Value.oneCell']) rfl (by decide) (by decide) (by decide)⟩ ?_
  refine wK [25] [] ?_
  refine wt [(7,.fl (.own 9) 1 (map Value.string ([v2,v4,(⟨#[83,117,98,106,101,99,116,58,32,85,110,100,101,108,105,118,101,114,101,100,32,109,97,105,108]⟩:ByteArray),(⟨#[67,111,110,116,101,110,116,45,84,121,112,101,58,32,109,117,108,116,105,112,97,114,116,47,114,101,112,111,114,116,59,32,114,101,112,111,114,116,45,116,121,112,101,61,100,101,108,105,118,101,114,121,45,115,116,97,116,117,115,59,32,98,111,117,110,100,97,114,121,61,119]⟩:ByteArray),z0,(⟨#[45,45,119]⟩:ByteArray),(⟨#[67,111,110,116,101,110,116,45,84,121,112,101,58,32,116,101,120,116,47,112,108,97,105,110]⟩:ByteArray),z0,v7,(⟨#[45,45,119]⟩:ByteArray),(⟨#[67,111,110,116,101,110,116,45,84,121,112,101,58,32,109,101,115,115,97,103,101,47,100,101,108,105,118,101,114,121,45,115,116,97,116,117,115]⟩:ByteArray),z0,v8,z0,v10,(⟨#[65,99,116,105,111,110,58,32,102,97,105,108,101,100]⟩:ByteArray),(⟨#[83,116,97,116,117,115,58,32,52,46,52,46,55]⟩:ByteArray),(⟨#[45,45,119,45,45]⟩:ByteArray)])))] [] ⟨op_assign_take _ _ _ _ rfl⟩ ?_
  refine wee hn [7] ?_
  refine yyy hn 1 [7,8] ?_
  refine ht_seq ?_
  refine yyy hn 1 [7,8,9] ?_
  refine ht_loopS h (fun ((s36,s37):ByteArray×Int)=>[(7,.fl (.own 9) 1 (map Value.string ([v2,v4,(⟨#[83,117,98,106,101,99,116,58,32,85,110,100,101,108,105,118,101,114,101,100,32,109,97,105,108]⟩:ByteArray),(⟨#[67,111,110,116,101,110,116,45,84,121,112,101,58,32,109,117,108,116,105,112,97,114,116,47,114,101,112,111,114,116,59,32,114,101,112,111,114,116,45,116,121,112,101,61,100,101,108,105,118,101,114,121,45,115,116,97,116,117,115,59,32,98,111,117,110,100,97,114,121,61,119]⟩:ByteArray),z0,(⟨#[45,45,119]⟩:ByteArray),(⟨#[67,111,110,116,101,110,116,45,84,121,112,101,58,32,116,101,120,116,47,112,108,97,105,110]⟩:ByteArray),z0,v7,(⟨#[45,45,119]⟩:ByteArray),(⟨#[67,111,110,116,101,110,116,45,84,121,112,101,58,32,109,101,115,115,97,103,101,47,100,101,108,105,118,101,114,121,45,115,116,97,116,117,115]⟩:ByteArray),z0,v8,z0,v10,(⟨#[65,99,116,105,111,110,58,32,102,97,105,108,101,100]⟩:ByteArray),(⟨#[83,116,97,116,117,115,58,32,52,46,52,46,55]⟩:ByteArray),(⟨#[45,45,119,45,45]⟩:ByteArray)]))),(8,vs s36),(9,vi s37)]) (fun (s39:ByteArray)=>[(8,vs s39)]) ?_ ?_
  ·rintro s39 h
   refine pt_then (ht_seq ?_)
   obtain ⟨v31, hv31, h⟩:=zn h
   refine yx hn 1 ?_
   refine ys 0 ⟨lU hv31⟩ ?_
   refine ya 0 ?_
   refine yee [6] ?_
   refine ht_ret ?_
   obtain rfl:=zi h
   exact pt_ret hio rfl (.tmp _ _ .nil) rfl rfl
  ·rintro u40 hl41 hr42 ⟨s36, s37⟩ rr45 h ho43
   refine ht_seq ?_
   refine yyy hn 4 [7,8,9,29] ?_
   refine ht_cond _ rfl (fun hb46 => ?_) (fun hb46 => ?_)
   ·have h:=cond_t hb46 h
    refine ht_skip ?_
    refine pt_then (ht_seq ?_)
    refine ht_block ?_
    obtain ⟨v12, hv12, h⟩:=zn h
    obtain ⟨v13, hv13, h⟩:=zn h
    obtain ⟨v14, hv14, h⟩:=zn h
    obtain ⟨v15, hv15, h⟩:=zn h
    refine yx hn 3 ?_
    refine ys 0 ⟨li hv12⟩ ?_
    refine ys 0 ⟨ll hv13⟩ ?_
    refine ys 0 ⟨lB (cat_ok hv14)⟩ ?_
    refine ys 0 ⟨lB (cat_ok hv15)⟩ ?_
    refine yw [8] 1 ?_
    refine ye [7,9,8] ?_
    refine pt_inb ?_
    refine pt_then ?_
    obtain ⟨v16, hv16, h⟩:=zn h
    refine yx hn 1 ?_
    refine ys 0 ⟨lb hv16⟩ ?_
    refine yw [9] 1 ?_
    refine ye [7,8,9] ?_
    exact pt_next _ (zi h).symm rfl
   ·have h:=cond_f hb46 h
    refine ht_exit ?_
    refine pt_x_then ?_
    refine pt_x_then ?_
    refine pt_x_in ?_
    refine pt_pick [1] (by kernel_rfl) (es':=[(_,_)]) rfl ?_
    exact hl41 _ (ho43 _ (zi h).symm).symm
theorem ok_wherryref11_ReadReport (b:(List Int)) (r:(ByteArray×T_Path×T_Path×Bool)) (h:Sh.wherryref11_ReadReport b=some r):FnOK Tryz.prog 28 [.fl .shr 1 (map (int .u8) b)] (.tup [.v (.string r.1), .agg [.v (.bool r.2.1.Null), .v (.string r.2.1.Local), .v (.string r.2.1.Domain)], .agg [.v (.bool r.2.2.1.Null), .v (.string r.2.2.1.Local), .v (.string r.2.2.1.Domain)], .v (.bool r.2.2.2)]):=by
  unfold Sh.wherryref11_ReadReport at h
  refine yO 97 func28 fun g0 hn hio => ?_
  refine yxx hn 1 ?_
  refine yS (.box 24 [vb false,vs z0,vs z0]) 0 ⟨oA (op_alloc _ _ zr24)⟩ ?_
  refine yS (.box 24 [vb false,vs z0,vs z0]) 1 ⟨oA (op_alloc _ _ zr24)⟩ ?_
  refine yee [0,3,4] ?_
  refine ht_seq ?_
  obtain ⟨v1, hv1, h⟩:=zn h
  refine yx hn 1 ?_
  refine ys 0 ⟨lk call37 (ok_wherryref11_Lines _ _ hv1)⟩ ?_
  refine ya 0 ?_
  refine yee [0,3,4,6] ?_
  refine ht_seq ?_
  refine yyy hn 3 [0,3,4,6,21] ?_
  refine ht_cond _ rfl (fun hb2 => ?_) (fun hb2 => ?_)
  ·have h:=cond_t hb2 h
   refine yxx hn 0 ?_
   refine yS (.agg [vb false,vs z0,vs z0]) 0 ⟨op_build _ _ _ _ [1,1,1] _ _ underlying24 zr24 (fs24 _ underlying24) Src.nil rfl rfl rfl⟩ ?_
   refine yS (.agg [vb false,vs z0,vs z0]) 1 ⟨op_build _ _ _ _ [1,1,1] _ _ underlying24 zr24 (fs24 _ underlying24) Src.nil rfl rfl rfl⟩ ?_
   refine yk [22,3] [] ?_
   refine yt (3,.box 24 [vb false,vs z0,vs z0]) 0 ⟨op_store_self _ _ _ 22 3 3 sz24 rfl rfl rfl rfl rfl (.eq _ (.eq _ (.eq _ (.nil _)))) rfl⟩ ?_
   refine yk [23,4] [] ?_
   refine yt (4,.box 24 [vb false,vs z0,vs z0]) 1 ⟨op_store_self _ _ _ 23 4 3 sz24 rfl rfl rfl rfl rfl (.eq _ (.eq _ (.eq _ (.nil _)))) rfl⟩ ?_
   refine yee [3,4,2,5] ?_
   refine ht_ret ?_
   refine pt_pick [2,0,1,3] (by kernel_rfl) (es':=[(_,_),(_,_),(_,_),(_,_)]) rfl ?_
   refine pt_r_then ?_
   obtain rfl:=zi h
   exact pt_ret hio rfl (.tmp _ _ (.cellA _ _ _ _ underlying24 rfl sz24 (.cellA _ _ _ _ underlying24 rfl sz24 (.tmp _ _ .nil)))) rfl rfl
  ·have h:=cond_f hb2 h
   refine ht_skip ?_
   refine pt_then (ht_seq ?_)
   obtain ⟨v3, hv3, h⟩:=zn h
   obtain ⟨v4, hv4, h⟩:=zn h
   obtain ⟨v5, hv5, h⟩:=zn h
   obtain ⟨v6, hv6, h⟩:=zn h
   refine yx hn 1 ?_
   refine ys 0 ⟨lI hv3⟩ ?_
   refine yS (.fl .ro 1 (map (int .u8) v4)) 0 ⟨op_load_fr _ _ _ _ _ _ _ underlying25 rfl rfl rfl (gflat_cell0 Row_int_u8.ilen hv4 rfl) (.fl _ _ rfl)⟩ ?_
   refine ys 0 ⟨lS hv5⟩ ?_
   refine ys 0 ⟨lk call38 (ok_wherryref11_begins _ _ _ hv6)⟩ ?_
   refine ym 4 ?_
   refine yee [0,3,4,6,7,8] ?_
   refine ht_seq ?_
   obtain ⟨v7, hv7, h⟩:=zn h
   obtain ⟨v8, hv8, h⟩:=zn h
   obtain ⟨v9, hv9, h⟩:=zn h
   obtain ⟨v10, hv10, h⟩:=zn h
   refine yx hn 1 ?_
   refine ys 0 ⟨lI hv7⟩ ?_
   refine yS (.fl .ro 1 (map (int .u8) v8)) 0 ⟨op_load_fr _ _ _ _ _ _ _ underlying25 rfl rfl rfl (gflat_cell0 Row_int_u8.ilen hv8 rfl) (.fl _ _ rfl)⟩ ?_
   refine ys 0 ⟨lS hv9⟩ ?_
   refine ys 0 ⟨lk call38 (ok_wherryref11_begins _ _ _ hv10)⟩ ?_
   refine ym 4 ?_
   refine yee [0,3,4,6,7,8,9,10] ?_
   refine ht_seq ?_
   obtain ⟨v11, hv11, h⟩:=zn h
   obtain ⟨v12, hv12, h⟩:=zn h
   obtain ⟨v13, hv13, h⟩:=zn h
   obtain ⟨v14, hv14, h⟩:=zn h
   refine yx hn 0 ?_
   refine ym 0 ?_
   refine ys 0 ⟨lI hv11⟩ ?_
   refine yS (.fl .ro 1 (map (int .u8) v12)) 0 ⟨op_load_fr _ _ _ _ _ _ _ underlying25 rfl rfl rfl (gflat_cell0 Row_int_u8.ilen hv12 rfl) (.fl _ _ rfl)⟩ ?_
   refine ys 0 ⟨lS hv13⟩ ?_
   refine ys 0 ⟨lk call38 (ok_wherryref11_begins _ _ _ hv14)⟩ ?_
   refine ym 4 ?_
   refine yee [0,3,4,7,8,9,10,11,12] ?_
   refine ht_seq ?_
   obtain ⟨v15, hv15, h⟩:=zn h
   refine yx hn 1 ?_
   refine ys 0 ⟨lk call39 (ok_wherryref11_Parse _ _ hv15)⟩ ?_
   refine ym 0 ?_
   refine yS (.agg [vb v15.1.Null,vs v15.1.Local,vs v15.1.Domain]) 1 ⟨op_extract_no _ _ _ _ _ _ rfl rfl (zl rfl) rfl rfl⟩ ?_
   refine yS (.box 24 [vb false,vs z0,vs z0]) 2 ⟨oA (op_alloc _ _ zr24)⟩ ?_
   refine yee [0,3,4,7,8,10,11,12,13,14] ?_
   refine ht_seq ?_
   obtain ⟨v16, hv16, h⟩:=zn h
   refine yx hn 1 ?_
   refine ys 0 ⟨lk call39 (ok_wherryref11_Parse _ _ hv16)⟩ ?_
   refine ym 0 ?_
   refine yS (.agg [vb v16.1.Null,vs v16.1.Local,vs v16.1.Domain]) 1 ⟨op_extract_no _ _ _ _ _ _ rfl rfl (zl rfl) rfl rfl⟩ ?_
   refine yS (.box 24 [vb false,vs z0,vs z0]) 2 ⟨oA (op_alloc _ _ zr24)⟩ ?_
   refine yee [0,3,4,7,8,10,12,13,14,15,16] ?_
   refine ht_seq ?_
   refine ht_seq ?_
   refine ht_joinS h (fun (s20:Bool)=>[(3,.box 24 [vb false,vs z0,vs z0]),(4,.box 24 [vb false,vs z0,vs z0]),(7,vs v6.1),(13,.box 24 [vb v15.1.Null,vs v15.1.Local,vs v15.1.Domain]),(15,.box 24 [vb v16.1.Null,vs v16.1.Local,vs v16.1.Domain]),(91,vb s20)]) ?_ ?_
   ·rintro s20 h
    refine pt_then ?_
    refine ht_cond _ rfl (fun hb24 => ?_) (fun hb24 => ?_)
    ·have h:=cond_t hb24 h
     refine yxx hn 0 ?_
     refine yS (.agg [vb false,vs z0,vs z0]) 0 ⟨op_build _ _ _ _ [1,1,1] _ _ underlying24 zr24 (fs24 _ underlying24) Src.nil rfl rfl rfl⟩ ?_
     refine yS (.agg [vb false,vs z0,vs z0]) 1 ⟨op_build _ _ _ _ [1,1,1] _ _ underlying24 zr24 (fs24 _ underlying24) Src.nil rfl rfl rfl⟩ ?_
     refine yk [92,3] [] ?_
     refine yt (3,.box 24 [vb false,vs z0,vs z0]) 0 ⟨op_store_self _ _ _ 92 3 3 sz24 rfl rfl rfl rfl rfl (.eq _ (.eq _ (.eq _ (.nil _)))) rfl⟩ ?_
     refine yk [93,4] [] ?_
     refine yt (4,.box 24 [vb false,vs z0,vs z0]) 1 ⟨op_store_self _ _ _ 93 4 3 sz24 rfl rfl rfl rfl rfl (.eq _ (.eq _ (.eq _ (.nil _)))) rfl⟩ ?_
     refine yee [3,4,2,5] ?_
     refine ht_ret ?_
     refine pt_pick [2,0,1,3] (by kernel_rfl) (es':=[(_,_),(_,_),(_,_),(_,_)]) rfl ?_
     refine pt_r_then ?_
     obtain rfl:=zi h
     exact pt_ret hio rfl (.tmp _ _ (.cellA _ _ _ _ underlying24 rfl sz24 (.cellA _ _ _ _ underlying24 rfl sz24 (.tmp _ _ .nil)))) rfl rfl
    ·have h:=cond_f hb24 h
     refine ht_skip ?_
     refine pt_then (ht_seq ?_)
     refine wb [[7],[13],[15],[94]] ?_
     refine wK [3] [95] ?_
     refine wt [(3,.box 24 [vb v15.1.Null,vs v15.1.Local,vs v15.1.Domain])] [] ⟨op_store _ _ _ _ _ _ _ _ sz24 rfl rfl rfl rfl (zl rfl) rfl rfl⟩ ?_
     refine wK [4] [96] ?_
     refine wt [(4,.box 24 [vb v16.1.Null,vs v16.1.Local,vs v16.1.Domain])] [[]] ⟨op_store _ _ _ _ _ _ _ _ sz24 rfl rfl rfl rfl (zl rfl) rfl rfl⟩ ?_
     refine wee hn [3,4,2,5] ?_
     refine ht_ret ?_
     refine pt_pick [2,0,1,3] (by kernel_rfl) (es':=[(_,_),(_,_),(_,_),(_,_)]) rfl ?_
     obtain rfl:=zi h
     exact pt_ret hio rfl (.tmp _ _ (.cellA _ _ _ _ underlying24 rfl sz24 (.cellA _ _ _ _ underlying24 rfl sz24 (.tmp _ _ .nil)))) rfl rfl
   ·intro u21 h hl22 hr23
    refine cond_some h (fun hg9_2 h => ?_) (fun hg9_2 h => ?_)
    ·refine yx hn 3 ?_
     refine yd hg9_2 31 ?_
     refine ye [3,4,7,13,15,91] ?_
     exact hl22 _ (zi h).symm
    ·refine cond_some h (fun hg9_6 h => ?_) (fun hg9_6 h => ?_)
     ·refine yx hn 3 ?_
      refine yd hg9_2 4 ?_
      refine yd hg9_6 27 ?_
      refine ye [3,4,7,13,15,91] ?_
      exact hl22 _ (zi h).symm
     ·refine cond_some h (fun hg9_10 h => ?_) (fun hg9_10 h => ?_)
      ·refine yx hn 3 ?_
       refine yd hg9_2 4 ?_
       refine yd hg9_6 4 ?_
       refine yd hg9_10 23 ?_
       refine ye [3,4,7,13,15,91] ?_
       exact hl22 _ (zi h).symm
      ·refine cond_some h (fun hg9_14 h => ?_) (fun hg9_14 h => ?_)
       ·refine yx hn 3 ?_
        refine yd hg9_2 4 ?_
        refine yd hg9_6 4 ?_
        refine yd hg9_10 4 ?_
        refine yd hg9_14 19 ?_
        refine ye [3,4,7,13,15,91] ?_
        exact hl22 _ (zi h).symm
       ·refine cond_some h (fun hg9_18 h => ?_) (fun hg9_18 h => ?_)
        ·refine yx hn 3 ?_
         refine yd hg9_2 4 ?_
         refine yd hg9_6 4 ?_
         refine yd hg9_10 4 ?_
         refine yd hg9_14 4 ?_
         refine yd hg9_18 15 ?_
         refine ye [3,4,7,13,15,91] ?_
         exact hl22 _ (zi h).symm
        ·obtain ⟨v17, hv17, h⟩:=zn h
         refine cond_some h (fun hg9_25 h => ?_) (fun hg9_25 h => ?_)
         ·refine yx hn 3 ?_
          refine yd hg9_2 4 ?_
          refine yd hg9_6 4 ?_
          refine yd hg9_10 4 ?_
          refine yd hg9_14 4 ?_
          refine yd hg9_18 3 ?_
          refine ys 3 ⟨lk call40 (ok_wherryref11_RightReport _ _ _ _ hv17)⟩ ?_
          refine yd hg9_25 8 ?_
          refine ye [3,4,7,13,15,91] ?_
          exact hl22 _ (zi h).symm
         ·obtain ⟨v18, hv18, h⟩:=zn h
          obtain ⟨v19, hv19, h⟩:=zn h
          refine yx hn 3 ?_
          refine yd hg9_2 4 ?_
          refine yd hg9_6 4 ?_
          refine yd hg9_10 4 ?_
          refine yd hg9_14 4 ?_
          refine yd hg9_18 3 ?_
          refine ys 3 ⟨lk call40 (ok_wherryref11_RightReport _ _ _ _ hv17)⟩ ?_
          refine yd hg9_25 3 ?_
          refine ys 1 ⟨lk call41 (ok_wherryref11_Report _ _ _ _ hv18)⟩ ?_
          refine ys 2 ⟨lk call27 (ok_wherrykeep_Bytes _ _ _ hv19)⟩ ?_
          refine ye [3,4,7,13,15,91] ?_
          exact hl22 _ (zi h).symm
theorem ok_wherryref23_Of (l:(List T_Event)) (site:Int) (to_:T_Path) (body:(List Int)) (r:(Int×Int)) (h:Sh.wherryref23_Of l site to_ body=some r):FnOK Tryz.prog 10 [.fr .shr true 9 (flatten (map T_Event.ienc l)), .v (.int .i64 site), .agg [.v (.bool to_.Null), .v (.string to_.Local), .v (.string to_.Domain)], .fl .shr 1 (map (int .u8) body)] (.tup [.v (.int .i64 r.1), .v (.int .i64 r.2)]):=by
  unfold Sh.wherryref23_Of at h
  refine yO 83 func10 fun g0 hn hio => ?_
  refine yyy hn 3 [0,1,3,6] ?_
  refine yyy hn 2 [0,1,3,6,10,11] ?_
  refine ht_seq ?_
  refine yyy hn 1 [0,1,3,6,10,11,12] ?_
  refine ht_loopS h (fun ((s119,s120,s121):Int×Int×Int)=>[(0,.fr .shr true 9 (flatten (map T_Event.ienc l))),(1,vi site),(3,fb body),(6,.box 24 [vb to_.Null,vs to_.Local,vs to_.Domain]),(10,vi s119),(11,vi s120),(12,vi s121)]) (fun ((s170,s171):Int×Int)=>[(10,vi s170),(11,vi s171)]) ?_ ?_
  ·rintro ⟨s170, s171⟩ h
   refine pt_then ?_
   refine yyy hn 4 [8,9] ?_
   refine ht_ret ?_
   obtain rfl:=zi h
   exact pt_ret hio rfl (.tmp _ _ (.tmp _ _ .nil)) rfl rfl
  ·rintro u172 hl173 hr174 ⟨s119, s120, s121⟩ rr177 h ho175
   refine ht_seq ?_
   refine yyy hn 4 [0,1,3,6,10,11,12,20] ?_
   refine ht_cond _ rfl (fun hb178 => ?_) (fun hb178 => ?_)
   ·have h:=cond_t hb178 h
    refine ht_skip ?_
    refine pt_then (ht_seq ?_)
    refine ht_joinS h (fun ((s200,s201):Int×Int)=>[(0,.fr .shr true 9 (flatten (map T_Event.ienc l))),(1,vi site),(3,fb body),(6,.box 24 [vb to_.Null,vs to_.Local,vs to_.Domain]),(10,vi s200),(11,vi s201),(12,vi s121)]) ?_ ?_
    ·rintro ⟨s200, s201⟩ h
     refine pt_then ?_
     obtain ⟨v67, hv67, h⟩:=zn h
     refine yx hn 1 ?_
     refine ys 0 ⟨lb hv67⟩ ?_
     refine yw [12] 1 ?_
     refine ye [0,1,3,6,10,11,12] ?_
     exact pt_next _ (zi h).symm rfl
    ·intro u202 h hl203 hr204
     refine ht_block ?_
     refine ht_seq ?_
     refine ht_seq ?_
     obtain ⟨v2, hv2, h⟩:=zn h
     obtain ⟨v3, hv3, h⟩:=zn h
     refine yx hn 2 ?_
     refine ys 1 ⟨lI hv2⟩ ?_
     refine yS (vi v3.Site) 2 ⟨op_load_fr _ _ _ _ _ _ _ underlying3 rfl rfl rfl (gflat_cell T_Event.ilen hv3 rfl) (.v _)⟩ ?_
     refine yee [0,1,3,6,10,11,12,29] ?_
     refine ht_cond _ rfl (fun hb205 => ?_) (fun hb205 => ?_)
     ·have h:=cond_t hb205 h
      refine ht_exit ?_
      refine pt_x_then ?_
      refine pt_x_in ?_
      refine pt_pick [0,1,2,3,4,5,6] (by kernel_rfl) (es':=[(_,_),(_,_),(_,_),(_,_),(_,_),(_,_),(_,_)]) rfl ?_
      exact hl203 _ (zi h).symm
     ·have h:=cond_f hb205 h
      refine ht_skip ?_
      refine pt_then (ht_seq ?_)
      refine ht_joinS h (fun (s211:Int)=>[(0,.fr .shr true 9 (flatten (map T_Event.ienc l))),(1,vi site),(3,fb body),(6,.box 24 [vb to_.Null,vs to_.Local,vs to_.Domain]),(11,vi s120),(12,vi s121),(10,vi s211)]) ?_ ?_
      ·rintro s211 h
       refine pt_then (ht_seq ?_)
       obtain ⟨v28, hv28, h⟩:=zn h
       obtain ⟨v29, hv29, h⟩:=zn h
       refine yx hn 2 ?_
       refine ys 1 ⟨lI hv28⟩ ?_
       refine yS (vi v29.Kind) 1 ⟨op_load_fr _ _ _ _ _ _ _ underlying3 rfl rfl rfl (gflat_cell T_Event.ilen hv29 rfl) (.v _)⟩ ?_
       refine yee [0,1,3,6,11,12,10,61] ?_
       refine ht_cond _ rfl (fun hb220 => ?_) (fun hb220 => ?_)
       ·have h:=cond_t hb220 h
        refine ht_seq ?_
        obtain ⟨v31, hv31, h⟩:=zn h
        obtain ⟨v32, hv32, h⟩:=zn h
        obtain ⟨v33, hv33, h⟩:=zn h
        refine yx hn 2 ?_
        refine ys 1 ⟨lI hv31⟩ ?_
        refine yS (fb v32.Body) 0 ⟨op_load_fr _ _ _ _ _ _ _ underlying25 rfl rfl rfl (gflat_cell T_Event.ilen hv32 rfl) (.fl _ _ rfl)⟩ ?_
        refine ys 0 ⟨lk call28 (ok_wherryref11_ReadReport _ _ hv33)⟩ ?_
        refine ym 1 ?_
        refine yS (.agg [vb v33.2.1.Null,vs v33.2.1.Local,vs v33.2.1.Domain]) 0 ⟨op_extract_no _ _ _ _ _ _ rfl rfl (zl rfl) rfl rfl⟩ ?_
        refine yS (.agg [vb v33.2.2.1.Null,vs v33.2.2.1.Local,vs v33.2.2.1.Domain]) 1 ⟨op_extract_no _ _ _ _ _ _ rfl rfl (zl rfl) rfl rfl⟩ ?_
        refine yS (.box 24 [vb false,vs z0,vs z0]) 0 ⟨oA (op_alloc _ _ zr24)⟩ ?_
        refine yS (.box 24 [vb false,vs z0,vs z0]) 4 ⟨oA (op_alloc _ _ zr24)⟩ ?_
        refine yee [0,1,3,6,11,12,10,15,16] ?_
        refine ht_seq ?_
        refine ht_joinS h (fun (s221:Bool)=>[(0,.fr .shr true 9 (flatten (map T_Event.ienc l))),(1,vi site),(3,fb body),(6,.box 24 [vb to_.Null,vs to_.Local,vs to_.Domain]),(11,vi s120),(12,vi s121),(10,vi s211),(78,vb s221)]) ?_ ?_
        ·rintro s221 h
         refine pt_then ?_
         refine ht_cond _ rfl (fun hb225 => ?_) (fun hb225 => ?_)
         ·have h:=cond_t hb225 h
          obtain ⟨v40, hv40, h⟩:=zn h
          refine yx hn 1 ?_
          refine ys 0 ⟨lb hv40⟩ ?_
          refine yw [11] 1 ?_
          refine ye [0,1,3,6,12,10,11] ?_
          refine pt_inb ?_
          refine pt_pick [0,1,2,3,5,6,4] (by kernel_rfl) (es':=[(_,_),(_,_),(_,_),(_,_),(_,_),(_,_),(_,_)]) rfl ?_
          exact hl203 _ (zi h).symm
         ·have h:=cond_f hb225 h
          refine ht_skip ?_
          refine pt_inb ?_
          refine pt_pick [0,1,2,3,6,4,5] (by kernel_rfl) (es':=[(_,_),(_,_),(_,_),(_,_),(_,_),(_,_),(_,_)]) rfl ?_
          exact hl203 _ (zi h).symm
        ·intro u222 h hl223 hr224
         refine cond_some h (fun hg10_1 h => ?_) (fun hg10_1 h => ?_)
         ·obtain ⟨v34, hv34, h⟩:=zn h
          refine yx hn 2 ?_
          refine yd hg10_1 2 ?_
          refine ys 1 ⟨lk call26 (ok_wherrykeep_Path _ _ _ hv34)⟩ ?_
          refine ye [0,1,3,6,11,12,10,78] ?_
          exact hl223 _ (zi h).symm
         ·refine yx hn 2 ?_
          refine yd hg10_1 4 ?_
          refine ye [0,1,3,6,11,12,10,78] ?_
          exact hl223 _ (zi h).symm
       ·have h:=cond_f hb220 h
        refine ht_skip ?_
        refine pt_inb ?_
        refine pt_pick [0,1,2,3,6,4,5] (by kernel_rfl) (es':=[(_,_),(_,_),(_,_),(_,_),(_,_),(_,_),(_,_)]) rfl ?_
        exact hl203 _ (zi h).symm
      ·intro u212 h hl213 hr214
       refine ht_seq ?_
       refine ht_joinS h (fun (s215:Bool)=>[(0,.fr .shr true 9 (flatten (map T_Event.ienc l))),(1,vi site),(3,fb body),(6,.box 24 [vb to_.Null,vs to_.Local,vs to_.Domain]),(10,vi s119),(11,vi s120),(12,vi s121),(53,vb s215)]) ?_ ?_
       ·rintro s215 h
        refine pt_then ?_
        refine ht_cond _ rfl (fun hb219 => ?_) (fun hb219 => ?_)
        ·have h:=cond_t hb219 h
         obtain ⟨v18, hv18, h⟩:=zn h
         refine yx hn 1 ?_
         refine ys 0 ⟨lb hv18⟩ ?_
         refine yw [10] 1 ?_
         refine ye [0,1,3,6,11,12,10] ?_
         exact hl213 _ (zi h).symm
        ·have h:=cond_f hb219 h
         refine ht_skip ?_
         refine pt_pick [0,1,2,3,5,6,4] (by kernel_rfl) (es':=[(_,_),(_,_),(_,_),(_,_),(_,_),(_,_),(_,_)]) rfl ?_
         exact hl213 _ (zi h).symm
       ·intro u216 h hl217 hr218
        obtain ⟨v5, hv5, h⟩:=zn h
        obtain ⟨v6, hv6, h⟩:=zn h
        refine cond_some h (fun hg6_6 h => ?_) (fun hg6_6 h => ?_)
        ·obtain ⟨v7, hv7, h⟩:=zn h
         obtain ⟨v8, hv8, h⟩:=zn h
         obtain ⟨v9, hv9, h⟩:=zn h
         refine cond_some h (fun hg6_15 h => ?_) (fun hg6_15 h => ?_)
         ·obtain ⟨v10, hv10, h⟩:=zn h
          obtain ⟨v11, hv11, h⟩:=zn h
          obtain ⟨v12, hv12, h⟩:=zn h
          refine wb [[0],[12]] ?_
          refine wN [30,31] ?_
          refine wo [[32,30]] ⟨lI hv5⟩ ?_
          refine wN [33,30] ?_
          refine wS (vi v6.Kind) [[34],[35]] ⟨op_load_fr _ _ _ _ _ _ _ underlying3 rfl rfl rfl (gflat_cell T_Event.ilen hv6 rfl) (.v _)⟩ ?_
          refine wd hg6_6 [[36,0],[36,12]] ?_
          refine wN [36,37,38] ?_
          refine wo [[36,39,37]] ⟨lI hv7⟩ ?_
          refine wN [36,40,37] ?_
          refine wS (.agg [vb v8.To.Null,vs v8.To.Local,vs v8.To.Domain]) [[36,6]] ⟨op_loadA_fr _ _ _ _ _ _ _ _ underlying24 rfl sz24 rfl rfl (gflat_seg T_Event.ilen hv8 (zl rfl) rfl) (.cons (.v _) (.cons (.v _) (.cons (.v _) (.nil)))) rfl (by decide)⟩ ?_
          refine wN [36,41,42] ?_
          refine wo [[36,43],[44]] ⟨lk call26 (ok_wherrykeep_Path _ _ _ hv9)⟩ ?_
          refine wd hg6_15 [[45,0],[45,12]] ?_
          refine wN [45,46,47] ?_
          refine wo [[45,48,46]] ⟨lI hv10⟩ ?_
          refine wN [45,49,46] ?_
          refine wS (fb v11.Body) [[45,3]] ⟨op_load_fr _ _ _ _ _ _ _ underlying25 rfl rfl rfl (gflat_cell T_Event.ilen hv11 rfl) (.fl _ _ rfl)⟩ ?_
          refine wN [45,50,51] ?_
          refine wo [[45,52]] ⟨lk call27 (ok_wherrykeep_Bytes _ _ _ hv12)⟩ ?_
          refine we hn [0,1,3,6,10,11,12,53] ?_
          exact hl217 _ (zi h).symm
         ·refine wb [[0],[12]] ?_
          refine wN [30,31] ?_
          refine wo [[32,30]] ⟨lI hv5⟩ ?_
          refine wN [33,30] ?_
          refine wS (vi v6.Kind) [[34],[35]] ⟨op_load_fr _ _ _ _ _ _ _ underlying3 rfl rfl rfl (gflat_cell T_Event.ilen hv6 rfl) (.v _)⟩ ?_
          refine wd hg6_6 [[36,0],[36,12]] ?_
          refine wN [36,37,38] ?_
          refine wo [[36,39,37]] ⟨lI hv7⟩ ?_
          refine wN [36,40,37] ?_
          refine wS (.agg [vb v8.To.Null,vs v8.To.Local,vs v8.To.Domain]) [[36,6]] ⟨op_loadA_fr _ _ _ _ _ _ _ _ underlying24 rfl sz24 rfl rfl (gflat_seg T_Event.ilen hv8 (zl rfl) rfl) (.cons (.v _) (.cons (.v _) (.cons (.v _) (.nil)))) rfl (by decide)⟩ ?_
          refine wN [36,41,42] ?_
          refine wo [[36,43],[44]] ⟨lk call26 (ok_wherrykeep_Path _ _ _ hv9)⟩ ?_
          refine wd hg6_15 [[45],[45],[45],[45],[45],[45],[45],[45]] ?_
          refine we hn [0,1,3,6,10,11,12,53] ?_
          exact hl217 _ (zi h).symm
        ·refine wb [[0],[12]] ?_
         refine wN [30,31] ?_
         refine wo [[32,30]] ⟨lI hv5⟩ ?_
         refine wN [33,30] ?_
         refine wS (vi v6.Kind) [[34],[35]] ⟨op_load_fr _ _ _ _ _ _ _ underlying3 rfl rfl rfl (gflat_cell T_Event.ilen hv6 rfl) (.v _)⟩ ?_
         refine wd hg6_6 [[36],[36],[36],[36],[36],[36],[36],[36],[44],[45],[45],[45],[45],[45],[45],[45],[45]] ?_
         refine we hn [0,1,3,6,10,11,12,53] ?_
         exact hl217 _ (zi h).symm
   ·have h:=cond_f hb178 h
    refine ht_exit ?_
    refine pt_x_then ?_
    refine pt_x_then ?_
    refine pt_x_in ?_
    refine pt_pick [4,5] (by kernel_rfl) (es':=[(_,_),(_,_)]) rfl ?_
    exact hl173 _ (ho175 _ (zi h).symm).symm
theorem ok_wherryref18_Nothing (r:T_Spool) (h:Sh.wherryref18_Nothing  = some r):FnOK Tryz.prog 29 [] (.agg [.fr (.own 74) false 11 (flatten (map T_Item.ienc r.Items)), .v (.int .i64 r.Packs), .fl (.own 3) 1 (map (int .i64) r.Sent), .fl (.own 5) 1 (map (int .u8) r.Part), .v (.int .i64 r.Of), .fl (.own 3) 1 (map (int .i64) r.Done)]):=by
  unfold Sh.wherryref18_Nothing at h
  refine yO 2 func29 fun g0 hn hio => ?_
  refine yxx hn 0 ?_
  refine yS (.box 44 [vz,vi 0,vz,vz,vi 0,vz]) 0 ⟨oA (op_alloc _ _ zr44)⟩ ?_
  refine yee [0] ?_
  refine yxx hn 0 ?_
  refine yS (.agg [vz,vi 0,vz,vz,vi (-1),vz]) 1 ⟨op_build _ _ _ _ [1,1,1,1,1,1] _ _ underlying44 zr44 (fs44 _ underlying44) (.copy _ Src.nil) rfl rfl rfl⟩ ?_
  refine yee [0] ?_
  refine ht_ret ?_
  refine pt_sub (fs:=[(0,.box 44 [.fr (.own 74) false 11 (flatten (map T_Item.ienc [])),vi 0,.fl (.own 3) 1 (map (int .i64) []),.fl (.own 5) 1 (map (int .u8) []),vi (-1),.fl (.own 3) 1 (map (int .i64) [])])]) (.box _ _ (subs_cons (sub_nil_fr 74 false 11) (subs_cons (sub_refl _) (subs_cons (sub_nil 3 1) (subs_cons (sub_nil 5 1) (subs_cons (sub_refl _) (subs_cons (sub_nil 3 1) (subs_nil))))))) rfl .nil) ?_
  obtain rfl:=zi h
  exact pt_ret hio rfl (.cellA _ _ _ _ underlying44 rfl sz44 .nil) rfl rfl
theorem ok_wherrykeep_TwinInts (l:(List Int)) (r:(List Int)) (h:Sh.wherrykeep_TwinInts l=some r):FnOK Tryz.prog 60 [.fl .shr 1 (map (int .i64) l)] (.fl (.own 3) 1 (map (int .i64) r)):=by
  unfold Sh.wherrykeep_TwinInts at h
  refine yO 7 func60 fun g0 hn hio => ?_
  refine yyy hn 1 [0] ?_
  refine yyy hn 1 [0,3] ?_
  refine ht_seq ?_
  obtain ⟨v1, hv1, h⟩:=zn h
  refine yx hn 2 ?_
  refine yS (.fl (.own 3) 1 (map (int .i64) v1)) 0 ⟨op_app_nil _ _ _ _ el42 rfl rfl (map_len _) hv1 (congrArg (map _) (app_nil_eq hv1))⟩ ?_
  refine ya 0 ?_
  refine yee [2] ?_
  refine ht_ret ?_
  obtain rfl:=zi h
  exact pt_ret hio rfl (.tmp _ _ .nil) rfl rfl
theorem ok_wherrykeep_TwinPaths (l:(List T_Path)) (r:(List T_Path)) (h:Sh.wherrykeep_TwinPaths l=some r):FnOK Tryz.prog 62 [.fl .shr 3 (flatten (map T_Path.enc l))] (.fl (.own 24) 3 (flatten (map T_Path.enc r))):=by
  unfold Sh.wherrykeep_TwinPaths at h
  refine yO 7 func62 fun g0 hn hio => ?_
  refine yyy hn 1 [0] ?_
  refine yyy hn 1 [0,3] ?_
  refine ht_seq ?_
  obtain ⟨v1, hv1, h⟩:=zn h
  refine yx hn 2 ?_
  refine yS (.fl (.own 24) 3 (flatten (map T_Path.enc v1))) 0 ⟨op_app_nil _ _ _ _ el30 rfl rfl (flat_len T_Path.len _) hv1 (congrArg (fun l=>flatten (map _ l)) (app_nil_eq hv1))⟩ ?_
  refine ya 0 ?_
  refine yee [2] ?_
  refine ht_ret ?_
  obtain rfl:=zi h
  exact pt_ret hio rfl (.tmp _ _ .nil) rfl rfl
theorem ok_wherrykeep_TwinMail (m:T_Mail) (r:T_Mail) (h:Sh.wherrykeep_TwinMail m=some r):FnOK Tryz.prog 45 [.agg [.v (.bool m.From.Null), .v (.string m.From.Local), .v (.string m.From.Domain), .fl .shr 3 (flatten (map T_Path.enc m.To)), .fl .shr 1 (map (int .u8) m.Body), .v (.bool m.Quiet), .v (.string m.Helo), .v (.int .i64 m.At)]] (.agg [.v (.bool r.From.Null), .v (.string r.From.Local), .v (.string r.From.Domain), .fl (.own 24) 3 (flatten (map T_Path.enc r.To)), .fl (.own 5) 1 (map (int .u8) r.Body), .v (.bool r.Quiet), .v (.string r.Helo), .v (.int .i64 r.At)]):=by
  unfold Sh.wherrykeep_TwinMail at h
  refine yO 12 func45 fun g0 hn hio => ?_
  refine yxx hn 1 ?_
  refine yS (.box 32 [vb false,vs z0,vs z0,vz,vz,vb false,vs z0,vi 0]) 0 ⟨oA (op_alloc _ _ zr32)⟩ ?_
  refine yee [1,2] ?_
  refine ht_seq ?_
  obtain ⟨v1, hv1, h⟩:=zn h
  obtain ⟨v2, hv2, h⟩:=zn h
  refine wb [[1],[3,1]] ?_
  refine wN [4] ?_
  refine wo [[1],[6,1]] ⟨lk call62 (ok_wherrykeep_TwinPaths _ _ hv1)⟩ ?_
  refine wN [7] ?_
  refine wo [[1]] ⟨lk call23 (ok_wherrykeep_Twin _ _ hv2)⟩ ?_
  refine wK [5,1] [9] ?_
  refine wt [(1,.box 32 [vb m.From.Null,vs m.From.Local,vs m.From.Domain,.fl (.own 24) 3 (flatten (map T_Path.enc v1)),fb m.Body,vb m.Quiet,vs m.Helo,vi m.At])] [[1]] ⟨op_store_take _ _ _ _ _ _ _ _ sz30 rfl rfl rfl (zl rfl) rfl rfl⟩ ?_
  refine wK [8,1] [10] ?_
  refine wt [(1,.box 32 [vb m.From.Null,vs m.From.Local,vs m.From.Domain,.fl (.own 24) 3 (flatten (map T_Path.enc v1)),.fl (.own 5) 1 (map (int .u8) v2),vb m.Quiet,vs m.Helo,vi m.At])] [] ⟨op_store_take _ _ _ _ _ _ _ _ sz25 rfl rfl rfl (zl rfl) rfl rfl⟩ ?_
  refine wee hn [1,2] ?_
  refine yxx hn 0 ?_
  refine yk [1] [] ?_
  refine yt (11,.agg [vb m.From.Null,vs m.From.Local,vs m.From.Domain,.fl (.own 24) 3 (flatten (map T_Path.enc v1)),.fl (.own 5) 1 (map (int .u8) v2),vb m.Quiet,vs m.Helo,vi m.At]) 0 ⟨op_loadA_take _ _ _ _ underlying32 rfl sz32 rfl rfl⟩ ?_
  refine yk [11,2] [] ?_
  refine yt (2,.box 32 [vb m.From.Null,vs m.From.Local,vs m.From.Domain,.fl (.own 24) 3 (flatten (map T_Path.enc v1)),.fl (.own 5) 1 (map (int .u8) v2),vb m.Quiet,vs m.Helo,vi m.At]) 0 ⟨op_store_take _ _ _ _ _ _ _ _ sz32 rfl rfl rfl (zl rfl) rfl rfl⟩ ?_
  refine yee [2] ?_
  refine ht_ret ?_
  obtain rfl:=zi h
  exact pt_ret hio rfl (.cellA _ _ _ _ underlying32 rfl sz32 .nil) rfl rfl
theorem ok_wherrykeep_TwinSpool (s:T_Spool) (r:T_Spool) (h:Sh.wherrykeep_TwinSpool s=some r):FnOK Tryz.prog 42 [.agg [.fr .shr true 11 (flatten (map T_Item.ienc s.Items)), .v (.int .i64 s.Packs), .fl .shr 1 (map (int .i64) s.Sent), .fl .shr 1 (map (int .u8) s.Part), .v (.int .i64 s.Of), .fl .shr 1 (map (int .i64) s.Done)]] (.agg [.fr (.own 74) false 11 (flatten (map T_Item.ienc r.Items)), .v (.int .i64 r.Packs), .fl (.own 3) 1 (map (int .i64) r.Sent), .fl (.own 5) 1 (map (int .u8) r.Part), .v (.int .i64 r.Of), .fl (.own 3) 1 (map (int .i64) r.Done)]):=by
  unfold Sh.wherrykeep_TwinSpool at h
  refine yO 43 func42 fun g0 hn hio => ?_
  refine yxx hn 1 ?_
  refine yS (.box 44 [vz,vi 0,vz,vz,vi 0,vz]) 0 ⟨oA (op_alloc _ _ zr44)⟩ ?_
  refine yee [1,2] ?_
  refine ht_seq ?_
  obtain ⟨v1, hv1, h⟩:=zn h
  obtain ⟨v2, hv2, h⟩:=zn h
  obtain ⟨v3, hv3, h⟩:=zn h
  refine wb [[1],[6,1],[1],[8,1]] ?_
  refine wN [9] ?_
  refine wo [[1],[11,1]] ⟨lk call60 (ok_wherrykeep_TwinInts _ _ hv1)⟩ ?_
  refine wN [12] ?_
  refine wo [[1],[14,1],[1],[16,1]] ⟨lk call23 (ok_wherrykeep_Twin _ _ hv2)⟩ ?_
  refine wN [17] ?_
  refine wo [] ⟨lk call60 (ok_wherrykeep_TwinInts _ _ hv3)⟩ ?_
  refine wK [10,13,18] [7,15] ?_
  refine wt [(19,.agg [vz,vi s.Packs,.fl (.own 3) 1 (map (int .i64) v1),.fl (.own 5) 1 (map (int .u8) v2),vi s.Of,.fl (.own 3) 1 (map (int .i64) v3)])] [] ⟨op_build _ _ _ _ [1,1,1,1,1,1] _ _ underlying44 zr44 (fs44 _ underlying44) (.copy _ (.take _ _ (.take _ _ (.copy _ (.take _ _ Src.nil))))) rfl rfl rfl⟩ ?_
  refine wN [] ?_
  refine wS (.box 44 [vz,vi 0,vz,vz,vi 0,vz]) [] ⟨oA (op_alloc _ _ zr44)⟩ ?_
  refine wK [19,3] [] ?_
  refine wt [(3,.box 44 [vz,vi s.Packs,.fl (.own 3) 1 (map (int .i64) v1),.fl (.own 5) 1 (map (int .u8) v2),vi s.Of,.fl (.own 3) 1 (map (int .i64) v3)])] [] ⟨op_store_take _ _ _ _ _ _ _ _ sz44 rfl rfl rfl (zl rfl) rfl rfl⟩ ?_
  refine wee hn [1,2,3] ?_
  refine ht_seq ?_
  refine yyy hn 1 [1,2,3,4] ?_
  refine ht_sub (fs:=[(1,.box 44 (T_Spool.c s [])),(2,.box 44 [vz,vi 0,vz,vz,vi 0,vz]),(3,.box 44 [.fr (.own 74) false 11 (flatten (map T_Item.ienc [])),vi s.Packs,.fl (.own 3) 1 (map (int .i64) v1),.fl (.own 5) 1 (map (int .u8) v2),vi s.Of,.fl (.own 3) 1 (map (int .i64) v3)]),(4,vi 0)]) (.same _ (.same _ (.box _ _ (subs_cons (sub_nil_fr 74 false 11) (subs_cons (sub_refl _) (subs_cons (sub_refl _) (subs_cons (sub_refl _) (subs_cons (sub_refl _) (subs_cons (sub_refl _) (subs_nil))))))) rfl (.same _ .nil)))) ?_
  refine ht_loopS h (fun ((s13,s14):(List T_Item)×Int)=>[(1,.box 44 (T_Spool.c s [])),(2,.box 44 [vz,vi 0,vz,vz,vi 0,vz]),(3,.box 44 [.fr (.own 74) false 11 (flatten (map T_Item.ienc s13)),vi s.Packs,.fl (.own 3) 1 (map (int .i64) v1),.fl (.own 5) 1 (map (int .u8) v2),vi s.Of,.fl (.own 3) 1 (map (int .i64) v3)]),(4,vi s14)]) (fun (s16:(List T_Item))=>[(2,.box 44 [vz,vi 0,vz,vz,vi 0,vz]),(3,.box 44 [.fr (.own 74) false 11 (flatten (map T_Item.ienc s16)),vi s.Packs,.fl (.own 3) 1 (map (int .i64) v1),.fl (.own 5) 1 (map (int .u8) v2),vi s.Of,.fl (.own 3) 1 (map (int .i64) v3)])]) ?_ ?_
  ·rintro s16 h
   refine pt_then ?_
   refine yxx hn 0 ?_
   refine yk [3] [] ?_
   refine yt (42,.agg [.fr (.own 74) false 11 (flatten (map T_Item.ienc s16)),vi s.Packs,.fl (.own 3) 1 (map (int .i64) v1),.fl (.own 5) 1 (map (int .u8) v2),vi s.Of,.fl (.own 3) 1 (map (int .i64) v3)]) 0 ⟨op_loadA_take _ _ _ _ underlying44 rfl sz44 rfl rfl⟩ ?_
   refine yk [42,2] [] ?_
   refine yt (2,.box 44 [.fr (.own 74) false 11 (flatten (map T_Item.ienc s16)),vi s.Packs,.fl (.own 3) 1 (map (int .i64) v1),.fl (.own 5) 1 (map (int .u8) v2),vi s.Of,.fl (.own 3) 1 (map (int .i64) v3)]) 0 ⟨op_store_take _ _ _ _ _ _ _ _ sz44 rfl rfl rfl (zl rfl) rfl rfl⟩ ?_
   refine yee [2] ?_
   refine ht_ret ?_
   obtain rfl:=zi h
   exact pt_ret hio rfl (.cellA _ _ _ _ underlying44 rfl sz44 .nil) rfl rfl
  ·rintro u17 hl18 hr19 ⟨s13, s14⟩ rr22 h ho20
   refine ht_seq ?_
   refine yyy hn 5 [1,2,3,4,24] ?_
   refine ht_cond _ rfl (fun hb23 => ?_) (fun hb23 => ?_)
   ·have h:=cond_t hb23 h
    refine ht_skip ?_
    refine pt_then (ht_seq ?_)
    refine ht_block ?_
    refine ht_seq ?_
    obtain ⟨v5, hv5, h⟩:=zn h
    obtain ⟨v6, hv6, h⟩:=zn h
    refine yx hn 3 ?_
    refine ys 0 ⟨lI hv5⟩ ?_
    refine yS (.agg (T_Item.c v6 [])) 0 ⟨op_loadA_fr _ _ _ _ _ _ _ _ underlying74 rfl sz74 rfl rfl (gflat_get T_Item.ilen hv6) (.cons (.v _) (.cons (.v _) (.cons (.v _) (.cons (.v _) (.cons (.fl _ _ rfl) (.cons (.fl _ _ rfl) (.cons (.v _) (.cons (.v _) (.cons (.v _) (.cons (.v _) (.cons (.v _) (.nil)))))))))))) rfl (by decide)⟩ ?_
    refine yS (.box 74 [vi 0,vb false,vs z0,vs z0,vz,vz,vb false,vs z0,vi 0,vi 0,vi 0]) 1 ⟨oA (op_alloc _ _ zr74)⟩ ?_
    refine yee [1,2,3,4,5] ?_
    refine ht_seq ?_
    obtain ⟨v7, hv7, h⟩:=zn h
    refine yx hn 2 ?_
    refine ys 1 ⟨lk call45 (ok_wherrykeep_TwinMail _ _ hv7)⟩ ?_
    refine yk [34,5] [35] ?_
    refine yt (5,.box 74 [vi v6.Id,vb v7.From.Null,vs v7.From.Local,vs v7.From.Domain,.fl (.own 24) 3 (flatten (map T_Path.enc v7.To)),.fl (.own 5) 1 (map (int .u8) v7.Body),vb v7.Quiet,vs v7.Helo,vi v7.At,vi v6.State,vi v6.Pack]) 0 ⟨op_store_take _ _ _ _ _ _ _ _ sz32 rfl rfl rfl (zl rfl) rfl rfl⟩ ?_
    refine yee [1,2,3,4,5] ?_
    obtain ⟨v8, hv8, h⟩:=zn h
    refine yx hn 2 ?_
    refine yk [5] [] ?_
    refine yt (38,.agg [vi v6.Id,vb v7.From.Null,vs v7.From.Local,vs v7.From.Domain,.fl (.own 24) 3 (flatten (map T_Path.enc v7.To)),.fl (.own 5) 1 (map (int .u8) v7.Body),vb v7.Quiet,vs v7.Helo,vi v7.At,vi v6.State,vi v6.Pack]) 0 ⟨op_loadA_take _ _ _ _ underlying74 rfl sz74 rfl rfl⟩ ?_
    refine yk [38] [] ?_
    refine yt (39,.fr (.own 74) false 11 (flatten (map T_Item.ienc [(T_Item.mk v6.Id ((T_Mail.mk (T_Path.mk v7.From.Null v7.From.Local v7.From.Domain) v7.To v7.Body v7.Quiet v7.Helo v7.At)) v6.State v6.Pack)]))) 0 ⟨op_build1_fr_take _ _ _ 11 (.agg #[.int .i64 0,.bool false,.string ByteArray.empty,.string ByteArray.empty,.slice none 0 0,.slice none 0 0,.bool false,.string ByteArray.empty,.int .i64 0,.int .i64 0,.int .i64 0]) false _ _ underlying41 sz74 zr74 rfl (.cons (.v _) (.cons (.v _) (.cons (.v _) (.cons (.v _) (.cons (.ro _ _ rfl) (.cons (.ro _ _ rfl) (.cons (.v _) (.cons (.v _) (.cons (.v _) (.cons (.v _) (.cons (.v _) (.nil)))))))))))) rfl (by decide) (by decide)⟩ ?_
    refine yk [3] [37,39] ?_
    refine ytt (3,.box 44 [.any,vi s.Packs,.fl (.own 3) 1 (map (int .i64) v1),.fl (.own 5) 1 (map (int .u8) v2),vi s.Of,.fl (.own 3) 1 (map (int .i64) v3)]) (40,.fr (.own 74) false 11 (flatten (map T_Item.ienc v8))) 1 ⟨op_app_fr_cell _ 40 3 0 _ _ el41 rfl rfl (zl rfl) rfl (gflat_len T_Item.ilen _) (gflat_len T_Item.ilen _) hv8 (gflat_app (app_eq hv8)) (by decide) (by decide) (by decide) rfl rfl⟩ ?_
    refine yw [37] 0 ?_
    refine yk [40,3] [41] ?_
    refine yt (3,.box 44 [.fr (.own 74) false 11 (flatten (map T_Item.ienc v8)),vi s.Packs,.fl (.own 3) 1 (map (int .i64) v1),.fl (.own 5) 1 (map (int .u8) v2),vi s.Of,.fl (.own 3) 1 (map (int .i64) v3)]) 0 ⟨op_store_take _ _ _ _ _ _ _ _ sz41 rfl rfl rfl (zl rfl) rfl rfl⟩ ?_
    refine ye [1,2,3,4] ?_
    refine pt_inb ?_
    refine pt_then ?_
    obtain ⟨v9, hv9, h⟩:=zn h
    refine yx hn 1 ?_
    refine ys 0 ⟨lb hv9⟩ ?_
    refine yw [4] 1 ?_
    refine ye [1,2,3,4] ?_
    exact pt_next _ (zi h).symm rfl
   ·have h:=cond_f hb23 h
    refine ht_exit ?_
    refine pt_x_then ?_
    refine pt_x_then ?_
    refine pt_x_in ?_
    refine pt_pick [1,2] (by kernel_rfl) (es':=[(_,_),(_,_)]) rfl ?_
    exact hl18 _ (ho20 _ (zi h).symm).symm
theorem ok_wherryref18_in (n:Int) (lo:Int) (hi:Int) (r:Bool) (h:Sh.wherryref18_in n lo hi=some r):FnOK Tryz.prog 43 [.v (.int .i64 n), .v (.int .i64 lo), .v (.int .i64 hi)] (.v (.bool r)):=by
  unfold Sh.wherryref18_in at h
  refine yO 15 func43 fun g0 hn hio => ?_
  refine yyy hn 1 [0,1,2] ?_
  refine ht_seq ?_
  refine ht_joinS h (fun (s1:Bool)=>[(6,vb s1)]) ?_ ?_
  ·rintro s1 h
   refine pt_then (ht_ret ?_)
   obtain rfl:=zi h
   exact pt_ret hio rfl (.tmp _ _ .nil) rfl rfl
  ·intro u2 h hl3 hr4
   refine cond_some h (fun hg1_3 h => ?_) (fun hg1_3 h => ?_)
   ·refine yx hn 4 ?_
    refine yd hg1_3 5 ?_
    refine ye [6] ?_
    exact hl3 _ (zi h).symm
   ·refine yx hn 4 ?_
    refine yd hg1_3 5 ?_
    refine ye [6] ?_
    exact hl3 _ (zi h).symm
theorem ok_wherryref11_Body (b:(List Int)) (r:Bool) (h:Sh.wherryref11_Body b=some r):FnOK Tryz.prog 61 [.fl .shr 1 (map (int .u8) b)] (.v (.bool r)):=by
  unfold Sh.wherryref11_Body at h
  refine yO 61 func61 fun g0 hn hio => ?_
  refine yyy hn 1 [0] ?_
  refine ht_seq ?_
  refine yyy hn 1 [0,3] ?_
  refine ht_loopS h (fun (s31:Int)=>[(0,fb b),(3,vi s31)]) (fun (():Unit)=>[(0,fb b)]) ?_ ?_
  ·rintro ⟨⟩ h
   refine pt_then (ht_seq ?_)
   refine ht_joinS h (fun (s53:Bool)=>[(2,vb s53)]) ?_ ?_
   ·rintro s53 h
    refine pt_then (ht_ret ?_)
    obtain rfl:=zi h
    exact pt_ret hio rfl (.tmp _ _ .nil) rfl rfl
   ·intro u54 h hl55 hr56
    refine cond_some h (fun hg6_3 h => ?_) (fun hg6_3 h => ?_)
    ·refine yx hn 4 ?_
     refine yd hg6_3 9 ?_
     refine ye [2] ?_
     exact hl55 _ (zi h).symm
    ·obtain ⟨v50, hv50, h⟩:=zn h
     obtain ⟨v51, hv51, h⟩:=zn h
     obtain ⟨v52, hv52, h⟩:=zn h
     refine yx hn 4 ?_
     refine yd hg6_3 3 ?_
     refine ys 0 ⟨lb hv50⟩ ?_
     refine ys 0 ⟨li hv51⟩ ?_
     refine ys 3 ⟨ll hv52⟩ ?_
     refine ye [2] ?_
     exact hl55 _ (zi h).symm
  ·rintro u38 hl39 hr40 s31 rr43 h ho41
   refine ht_seq ?_
   refine yyy hn 4 [0,3,7] ?_
   refine ht_cond _ rfl (fun hb44 => ?_) (fun hb44 => ?_)
   ·have h:=cond_t hb44 h
    refine ht_skip ?_
    refine pt_then (ht_seq ?_)
    refine ht_block ?_
    refine ht_seq ?_
    refine ht_joinS h (fun (s45:Bool)=>[(0,fb b),(3,vi s31),(48,vb s45)]) ?_ ?_
    ·rintro s45 h
     refine pt_then ?_
     refine ht_cond _ rfl (fun hb49 => ?_) (fun hb49 => ?_)
     ·have h:=cond_t hb49 h
      refine yyy hn 1 [2] ?_
      refine ht_ret ?_
      refine pt_r_in ?_
      refine pt_r_then ?_
      refine pt_r_then ?_
      refine pt_r_in ?_
      refine pt_r_then ?_
      have h:=hr40 _ (ho41 _ (zi h).symm).symm
      obtain rfl:=zi h
      exact pt_ret hio rfl (.tmp _ _ .nil) rfl rfl
     ·have h:=cond_f hb49 h
      refine ht_skip ?_
      refine pt_inb ?_
      refine pt_then ?_
      obtain ⟨v23, hv23, h⟩:=zn h
      refine yx hn 1 ?_
      refine ys 0 ⟨lb hv23⟩ ?_
      refine yw [3] 1 ?_
      refine ye [0,3] ?_
      exact pt_next _ (zi h).symm rfl
    ·intro u46 h hl47 hr48
     obtain ⟨v2, hv2, h⟩:=zn h
     obtain ⟨v3, hv3, h⟩:=zn h
     refine cond_some h (fun hg4_5 h => ?_) (fun hg4_5 h => ?_)
     ·obtain ⟨v4, hv4, h⟩:=zn h
      refine cond_some h (fun hg4_11 h => ?_) (fun hg4_11 h => ?_)
      ·refine yx hn 2 ?_
       refine ys 0 ⟨li hv2⟩ ?_
       refine ys 2 ⟨ll hv3⟩ ?_
       refine yd hg4_5 1 ?_
       refine ys 4 ⟨lb hv4⟩ ?_
       refine yd hg4_11 27 ?_
       refine ye [0,3,48] ?_
       exact hl47 _ (zi h).symm
      ·obtain ⟨v5, hv5, h⟩:=zn h
       obtain ⟨v6, hv6, h⟩:=zn h
       obtain ⟨v7, hv7, h⟩:=zn h
       refine cond_some h (fun hg4_20 h => ?_) (fun hg4_20 h => ?_)
       ·refine yx hn 2 ?_
        refine ys 0 ⟨li hv2⟩ ?_
        refine ys 2 ⟨ll hv3⟩ ?_
        refine yd hg4_5 1 ?_
        refine ys 4 ⟨lb hv4⟩ ?_
        refine yd hg4_11 2 ?_
        refine ys 0 ⟨lb hv5⟩ ?_
        refine ys 0 ⟨li hv6⟩ ?_
        refine ys 4 ⟨ll hv7⟩ ?_
        refine yd hg4_20 18 ?_
        refine ye [0,3,48] ?_
        exact hl47 _ (zi h).symm
       ·obtain ⟨v8, hv8, h⟩:=zn h
        obtain ⟨v9, hv9, h⟩:=zn h
        refine cond_some h (fun hg4_26 h => ?_) (fun hg4_26 h => ?_)
        ·refine cond_some h (fun hg4_29 h => ?_) (fun hg4_29 h => ?_)
         ·refine yx hn 2 ?_
          refine ys 0 ⟨li hv2⟩ ?_
          refine ys 2 ⟨ll hv3⟩ ?_
          refine yd hg4_5 1 ?_
          refine ys 4 ⟨lb hv4⟩ ?_
          refine yd hg4_11 2 ?_
          refine ys 0 ⟨lb hv5⟩ ?_
          refine ys 0 ⟨li hv6⟩ ?_
          refine ys 4 ⟨ll hv7⟩ ?_
          refine yd hg4_20 2 ?_
          refine ys 0 ⟨li hv8⟩ ?_
          refine ys 2 ⟨ll hv9⟩ ?_
          refine yd hg4_26 3 ?_
          refine yd hg4_29 9 ?_
          refine ye [0,3,48] ?_
          exact hl47 _ (zi h).symm
         ·obtain ⟨v10, hv10, h⟩:=zn h
          obtain ⟨v11, hv11, h⟩:=zn h
          obtain ⟨v12, hv12, h⟩:=zn h
          refine yx hn 2 ?_
          refine ys 0 ⟨li hv2⟩ ?_
          refine ys 2 ⟨ll hv3⟩ ?_
          refine yd hg4_5 1 ?_
          refine ys 4 ⟨lb hv4⟩ ?_
          refine yd hg4_11 2 ?_
          refine ys 0 ⟨lb hv5⟩ ?_
          refine ys 0 ⟨li hv6⟩ ?_
          refine ys 4 ⟨ll hv7⟩ ?_
          refine yd hg4_20 2 ?_
          refine ys 0 ⟨li hv8⟩ ?_
          refine ys 2 ⟨ll hv9⟩ ?_
          refine yd hg4_26 3 ?_
          refine yd hg4_29 2 ?_
          refine ys 0 ⟨lb hv10⟩ ?_
          refine ys 0 ⟨li hv11⟩ ?_
          refine ys 4 ⟨ll hv12⟩ ?_
          refine ye [0,3,48] ?_
          exact hl47 _ (zi h).symm
        ·refine yx hn 2 ?_
         refine ys 0 ⟨li hv2⟩ ?_
         refine ys 2 ⟨ll hv3⟩ ?_
         refine yd hg4_5 1 ?_
         refine ys 4 ⟨lb hv4⟩ ?_
         refine yd hg4_11 2 ?_
         refine ys 0 ⟨lb hv5⟩ ?_
         refine ys 0 ⟨li hv6⟩ ?_
         refine ys 4 ⟨ll hv7⟩ ?_
         refine yd hg4_20 2 ?_
         refine ys 0 ⟨li hv8⟩ ?_
         refine ys 2 ⟨ll hv9⟩ ?_
         refine yd hg4_26 12 ?_
         refine ye [0,3,48] ?_
         exact hl47 _ (zi h).symm
     ·obtain ⟨v13, hv13, h⟩:=zn h
      obtain ⟨v14, hv14, h⟩:=zn h
      refine cond_some h (fun hg4_26 h => ?_) (fun hg4_26 h => ?_)
      ·refine cond_some h (fun hg4_29 h => ?_) (fun hg4_29 h => ?_)
       ·refine yx hn 2 ?_
        refine ys 0 ⟨li hv2⟩ ?_
        refine ys 2 ⟨ll hv3⟩ ?_
        refine yd hg4_5 17 ?_
        refine ys 0 ⟨li hv13⟩ ?_
        refine ys 2 ⟨ll hv14⟩ ?_
        refine yd hg4_26 3 ?_
        refine yd hg4_29 9 ?_
        refine ye [0,3,48] ?_
        exact hl47 _ (zi h).symm
       ·obtain ⟨v15, hv15, h⟩:=zn h
        obtain ⟨v16, hv16, h⟩:=zn h
        obtain ⟨v17, hv17, h⟩:=zn h
        refine yx hn 2 ?_
        refine ys 0 ⟨li hv2⟩ ?_
        refine ys 2 ⟨ll hv3⟩ ?_
        refine yd hg4_5 17 ?_
        refine ys 0 ⟨li hv13⟩ ?_
        refine ys 2 ⟨ll hv14⟩ ?_
        refine yd hg4_26 3 ?_
        refine yd hg4_29 2 ?_
        refine ys 0 ⟨lb hv15⟩ ?_
        refine ys 0 ⟨li hv16⟩ ?_
        refine ys 4 ⟨ll hv17⟩ ?_
        refine ye [0,3,48] ?_
        exact hl47 _ (zi h).symm
      ·refine yx hn 2 ?_
       refine ys 0 ⟨li hv2⟩ ?_
       refine ys 2 ⟨ll hv3⟩ ?_
       refine yd hg4_5 17 ?_
       refine ys 0 ⟨li hv13⟩ ?_
       refine ys 2 ⟨ll hv14⟩ ?_
       refine yd hg4_26 12 ?_
       refine ye [0,3,48] ?_
       exact hl47 _ (zi h).symm
   ·have h:=cond_f hb44 h
    refine ht_exit ?_
    refine pt_x_then ?_
    refine pt_x_then ?_
    refine pt_x_in ?_
    refine pt_pick [0] (by kernel_rfl) (es':=[(_,_)]) rfl ?_
    exact hl39 _ (ho41 _ (zi h).symm).symm
theorem ok_wherryref18_mail (m:T_Mail) (r:Bool) (h:Sh.wherryref18_mail m=some r):FnOK Tryz.prog 44 [.agg [.v (.bool m.From.Null), .v (.string m.From.Local), .v (.string m.From.Domain), .fl .shr 3 (flatten (map T_Path.enc m.To)), .fl .shr 1 (map (int .u8) m.Body), .v (.bool m.Quiet), .v (.string m.Helo), .v (.int .i64 m.At)]] (.v (.bool r)):=by
  unfold Sh.wherryref18_mail at h
  refine yO 49 func44 fun g0 hn hio => ?_
  refine yyy hn 2 [1] ?_
  refine ht_seq ?_
  refine ht_seq ?_
  refine ht_joinS h (fun (s5:Bool)=>[(1,.box 32 (T_Mail.c m [])),(26,vb s5)]) ?_ ?_
  ·rintro s5 h
   refine pt_then ?_
   refine ht_cond _ rfl (fun hb9 => ?_) (fun hb9 => ?_)
   ·have h:=cond_t hb9 h
    refine yyy hn 1 [2] ?_
    refine ht_ret ?_
    refine pt_r_then ?_
    obtain rfl:=zi h
    exact pt_ret hio rfl (.tmp _ _ .nil) rfl rfl
   ·have h:=cond_f hb9 h
    refine ht_skip ?_
    refine pt_then (ht_seq ?_)
    refine yyy hn 1 [1,3] ?_
    refine ht_loopS h (fun (s29:Int)=>[(1,.box 32 (T_Mail.c m [])),(3,vi s29)]) (fun (():Unit)=>[]) ?_ ?_
    ·rintro ⟨⟩ h
     refine pt_then ?_
     refine yyy hn 1 [2] ?_
     refine ht_ret ?_
     obtain rfl:=zi h
     exact pt_ret hio rfl (.tmp _ _ .nil) rfl rfl
    ·rintro u36 hl37 hr38 s29 rr41 h ho39
     refine ht_seq ?_
     refine yyy hn 5 [1,3,31] ?_
     refine ht_cond _ rfl (fun hb42 => ?_) (fun hb42 => ?_)
     ·have h:=cond_t hb42 h
      refine ht_skip ?_
      refine pt_then (ht_seq ?_)
      refine ht_block ?_
      refine ht_seq ?_
      refine ht_joinS h (fun (s43:Bool)=>[(1,.box 32 (T_Mail.c m [])),(3,vi s29),(48,vb s43)]) ?_ ?_
      ·rintro s43 h
       refine pt_then ?_
       refine ht_cond _ rfl (fun hb47 => ?_) (fun hb47 => ?_)
       ·have h:=cond_t hb47 h
        refine yyy hn 1 [2] ?_
        refine ht_ret ?_
        refine pt_r_in ?_
        refine pt_r_then ?_
        refine pt_r_then ?_
        refine pt_r_in ?_
        refine pt_r_then ?_
        have h:=hr38 _ (ho39 _ (zi h).symm).symm
        obtain rfl:=zi h
        exact pt_ret hio rfl (.tmp _ _ .nil) rfl rfl
       ·have h:=cond_f hb47 h
        refine ht_skip ?_
        refine pt_inb ?_
        refine pt_then ?_
        obtain ⟨v21, hv21, h⟩:=zn h
        refine yx hn 1 ?_
        refine ys 0 ⟨lb hv21⟩ ?_
        refine yw [3] 1 ?_
        refine ye [1,3] ?_
        exact pt_next _ (zi h).symm rfl
      ·intro u44 h hl45 hr46
       obtain ⟨v11, hv11, h⟩:=zn h
       obtain ⟨v12, hv12, h⟩:=zn h
       obtain ⟨v13, hv13, h⟩:=zn h
       refine cond_some h (fun hg6_7 h => ?_) (fun hg6_7 h => ?_)
       ·refine yx hn 3 ?_
        refine ys 0 ⟨lj hv11⟩ ?_
        refine yS (.agg [vb v12.Null,vs v12.Local,vs v12.Domain]) 0 ⟨op_load_eA _ _ _ _ _ _ _ underlying24 rfl sz24 rfl rfl (flat_get T_Path.len hv12) rfl (by decide)⟩ ?_
        refine ys 2 ⟨lk call57 (ok_wherryref11_Path _ _ hv13)⟩ ?_
        refine yd hg6_7 7 ?_
        refine ye [1,3,48] ?_
        exact hl45 _ (zi h).symm
       ·obtain ⟨v14, hv14, h⟩:=zn h
        obtain ⟨v15, hv15, h⟩:=zn h
        refine yx hn 3 ?_
        refine ys 0 ⟨lj hv11⟩ ?_
        refine yS (.agg [vb v12.Null,vs v12.Local,vs v12.Domain]) 0 ⟨op_load_eA _ _ _ _ _ _ _ underlying24 rfl sz24 rfl rfl (flat_get T_Path.len hv12) rfl (by decide)⟩ ?_
        refine ys 2 ⟨lk call57 (ok_wherryref11_Path _ _ hv13)⟩ ?_
        refine yd hg6_7 3 ?_
        refine ys 1 ⟨lj hv14⟩ ?_
        refine ys 1 ⟨lL hv15⟩ ?_
        refine ye [1,3,48] ?_
        exact hl45 _ (zi h).symm
     ·have h:=cond_f hb42 h
      refine ht_exit ?_
      refine pt_x_then ?_
      refine pt_x_then ?_
      refine pt_x_in ?_
      refine pt_pick [] (by kernel_rfl) (es':=[]) rfl ?_
      exact hl37 _ (ho39 _ (zi h).symm).symm
  ·intro u6 h hl7 hr8
   obtain ⟨v1, hv1, h⟩:=zn h
   refine cond_some h (fun hg1_4 h => ?_) (fun hg1_4 h => ?_)
   ·refine yx hn 2 ?_
    refine ys 2 ⟨lk call57 (ok_wherryref11_Path _ _ hv1)⟩ ?_
    refine yd hg1_4 18 ?_
    refine ye [1,26] ?_
    exact hl7 _ (zi h).symm
   ·obtain ⟨v2, hv2, h⟩:=zn h
    refine cond_some h (fun hg1_11 h => ?_) (fun hg1_11 h => ?_)
    ·refine yx hn 2 ?_
     refine ys 2 ⟨lk call57 (ok_wherryref11_Path _ _ hv1)⟩ ?_
     refine yd hg1_4 3 ?_
     refine ys 3 ⟨lk call43 (ok_wherryref18_in _ _ _ _ hv2)⟩ ?_
     refine yd hg1_11 11 ?_
     refine ye [1,26] ?_
     exact hl7 _ (zi h).symm
    ·obtain ⟨v3, hv3, h⟩:=zn h
     refine cond_some h (fun hg1_17 h => ?_) (fun hg1_17 h => ?_)
     ·refine yx hn 2 ?_
      refine ys 2 ⟨lk call57 (ok_wherryref11_Path _ _ hv1)⟩ ?_
      refine yd hg1_4 3 ?_
      refine ys 3 ⟨lk call43 (ok_wherryref18_in _ _ _ _ hv2)⟩ ?_
      refine yd hg1_11 2 ?_
      refine ys 3 ⟨lk call61 (ok_wherryref11_Body _ _ hv3)⟩ ?_
      refine yd hg1_17 5 ?_
      refine ye [1,26] ?_
      exact hl7 _ (zi h).symm
     ·obtain ⟨v4, hv4, h⟩:=zn h
      refine yx hn 2 ?_
      refine ys 2 ⟨lk call57 (ok_wherryref11_Path _ _ hv1)⟩ ?_
      refine yd hg1_4 3 ?_
      refine ys 3 ⟨lk call43 (ok_wherryref18_in _ _ _ _ hv2)⟩ ?_
      refine yd hg1_11 2 ?_
      refine ys 3 ⟨lk call61 (ok_wherryref11_Body _ _ hv3)⟩ ?_
      refine yd hg1_17 2 ?_
      refine ys 2 ⟨lk call43 (ok_wherryref18_in _ _ _ _ hv4)⟩ ?_
      refine ye [1,26] ?_
      exact hl7 _ (zi h).symm
end Go.Proofs.YtofbofdggabfiaaGreatDoor
