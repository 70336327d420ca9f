/-
  The model's runs are what is told in Lean.
-/
import Derived.Test.YtdligpdfcfbgpaaProg
import Derived.KernelRfl
import Derived.Test.YtdligpdfcfbgpaaBE
import Derived.Test.YtdligpdfcfbgpaaC1
import Derived.Test.YtdligpdfcfbgpaaOkc3
set_option linter.unusedVariables false
set_option linter.unusedSimpArgs false
set_option maxHeartbeats 1000000
namespace Go.Proofs.Ytdligpdfcfbgpaa
open Go.Abs Go.Abs.Sh Try

theorem ok_wherrylaw21_SenderExact (s : T_Send) (f : T_Frame) (number : Int) (data : (List Int)) (r : Bool) (h : Sh.wherrylaw21_SenderExact s f number data = some r) : FnOK Try.prog 3 [.agg [.v (.int .i64 s.Number), .fl .shr 1 (List.map (Value.int .u8) s.Data), .v (.bool s.Ready), .v (.int .i64 s.Base), .v (.int .i64 s.Next), .v (.int .i64 s.Wait), .v (.bool s.Over)], .agg [.v (.int .i64 f.Kind), .v (.int .i64 f.Number), .v (.int .i64 f.Offset), .v (.int .i64 f.Seq), .fl .shr 1 (List.map (Value.int .u8) f.Data)], .v (.int .i64 number), .fl .shr 1 (List.map (Value.int .u8) data)] (.v (.bool r)) := by
  unfold Sh.wherrylaw21_SenderExact at h
  refine yO 206 func3 fun g0 hn hio => ?_
  refine yyy hn 3 [2,3,4,5] ?_
  refine ht_seq ?_
  refine ht_seq ?_
  refine ht_joinS h (fun (s1 : Bool) => [(2, .v (.int .i64 number)), (3, .fl .shr 1 (List.map (Value.int .u8) data)), (4, .box 24 [.v (.int .i64 s.Number), .fl .shr 1 (List.map (Value.int .u8) s.Data), .v (.bool s.Ready), .v (.int .i64 s.Base), .v (.int .i64 s.Next), .v (.int .i64 s.Wait), .v (.bool s.Over)]), (5, .box 26 [.v (.int .i64 f.Kind), .v (.int .i64 f.Number), .v (.int .i64 f.Offset), .v (.int .i64 f.Seq), .fl .shr 1 (List.map (Value.int .u8) f.Data)]), (41, .v (.bool s1))]) ?_ ?_
  ·rintro s1 h
   refine pt_then ?_
   refine ht_cond _ rfl (fun hb5 => ?_) (fun hb5 => ?_)
   ·have h := cond_t hb5 h
    refine yyy hn 1 [8] ?_
    refine ht_ret ?_
    refine pt_r_then ?_
    obtain rfl := Option.some.inj h
    exact pt_ret hio rfl (.tmp _ _ .nil) rfl rfl
   ·have h := cond_f hb5 h
    refine ht_skip ?_
    refine pt_then (ht_seq ?_)
    obtain ⟨v6, hv6, h⟩ := bind_some h
    obtain ⟨v7, hv7, h⟩ := bind_some h
    obtain ⟨v8, hv8, h⟩ := bind_some h
    refine wb [[4]] ?_
    refine wN [42] ?_
    refine wo [[5]] ⟨lk call10 (ok_wherrykeep_TwinSend _ _ hv6)⟩ ?_
    refine wN [44] ?_
    refine wo [[3]] ⟨lk call11 (ok_wherrykeep_TwinFrame _ _ hv7)⟩ ?_
    refine wN [46] ?_
    refine wo [] ⟨lk call12 (ok_wherrykeep_Twin _ _ hv8)⟩ ?_
    refine wN [] ?_
    refine wS (.box 24 [.v (.int .i64 0), .v (.slice none 0 0), .v (.bool false), .v (.int .i64 0), .v (.int .i64 0), .v (.int .i64 0), .v (.bool false)]) [] ⟨oA (op_alloc _ _ zr24)⟩ ?_
    refine wN [] ?_
    refine wS (.box 26 [.v (.int .i64 0), .v (.int .i64 0), .v (.int .i64 0), .v (.int .i64 0), .v (.slice none 0 0)]) [] ⟨oA (op_alloc _ _ zr26)⟩ ?_
    refine wK [43,9] [] ?_
    refine wt [(9, .box 24 [.v (.int .i64 v6.Number), .fl (.own 5) 1 (List.map (Value.int .u8) v6.Data), .v (.bool v6.Ready), .v (.int .i64 v6.Base), .v (.int .i64 v6.Next), .v (.int .i64 v6.Wait), .v (.bool v6.Over)])] [] ⟨op_store_take _ _ _ _ _ _ _ _ sz24 rfl rfl rfl (zl rfl) rfl rfl⟩ ?_
    refine wK [45,10] [] ?_
    refine wt [(10, .box 26 [.v (.int .i64 v7.Kind), .v (.int .i64 v7.Number), .v (.int .i64 v7.Offset), .v (.int .i64 v7.Seq), .fl (.own 5) 1 (List.map (Value.int .u8) v7.Data)])] [] ⟨op_store_take _ _ _ _ _ _ _ _ sz26 rfl rfl rfl (zl rfl) rfl rfl⟩ ?_
    refine wK [47] [] ?_
    refine wt [(11, .fl (.own 5) 1 (List.map (Value.int .u8) v8))] [] ⟨op_assign_take _ _ _ _ rfl⟩ ?_
    refine wee hn [2,3,4,5,9,10,11] ?_
    refine ht_seq ?_
    obtain ⟨v9, hv9, h⟩ := bind_some h
    refine yx hn 1 ?_
    refine ys 1 ⟨lk call13 (ok_wherryref18_Send _ _ hv9)⟩ ?_
    refine yee [2,3,4,5,9,10,11,12] ?_
    refine ht_seq ?_
    obtain ⟨v10, hv10, h⟩ := bind_some h
    refine yx hn 1 ?_
    refine yS (.tup [.agg [.v (.int .i64 v10.1.Number), .fl (.own 5) 1 (List.map (Value.int .u8) v10.1.Data), .v (.bool v10.1.Ready), .v (.int .i64 v10.1.Base), .v (.int .i64 v10.1.Next), .v (.int .i64 v10.1.Wait), .v (.bool v10.1.Over)], .hid (ownJ 26 5 (List.flatten (List.map oe26 v10.2.1))), .v (.int .i64 v10.2.2)]) 0 ⟨op_callNI _ _ 14 _ _ rfl call14 rfl (ok_sender_Tick v6 _ hv10) rfl (noIm_tup (noIms_cons (noIm_of rfl rfl) (noIms_cons (noIm_hid (oe_closed oe26_c _) (oe_noShr oe26_s _)) (noIms_cons (noIm_of rfl rfl) (noIms_nil)))))⟩ ?_
    refine ym 0 ?_
    refine yx_ 0 ?_
    refine yx_ 1 ?_
    refine yS (.box 24 [.v (.int .i64 0), .v (.slice none 0 0), .v (.bool false), .v (.int .i64 0), .v (.int .i64 0), .v (.int .i64 0), .v (.bool false)]) 0 ⟨oA (op_alloc _ _ zr24)⟩ ?_
    refine yk [53,13] [] ?_
    refine yt (13, .box 24 [.v (.int .i64 v10.1.Number), .fl (.own 5) 1 (List.map (Value.int .u8) v10.1.Data), .v (.bool v10.1.Ready), .v (.int .i64 v10.1.Base), .v (.int .i64 v10.1.Next), .v (.int .i64 v10.1.Wait), .v (.bool v10.1.Over)]) 0 ⟨op_store_take _ _ _ _ _ _ _ _ sz24 rfl rfl rfl (zl rfl) rfl rfl⟩ ?_
    refine ya 1 ?_
    refine yee [2,3,4,5,9,10,11,12,13,14,15] ?_
    refine ht_seq ?_
    obtain ⟨v11, hv11, h⟩ := bind_some h
    refine yx hn 2 ?_
    refine ys 0 ⟨lk call15 (ok_sender_Hear _ _ _ hv11)⟩ ?_
    refine ym 0 ?_
    refine yx_ 1 ?_
    refine yS (.box 24 [.v (.int .i64 0), .v (.slice none 0 0), .v (.bool false), .v (.int .i64 0), .v (.int .i64 0), .v (.int .i64 0), .v (.bool false)]) 0 ⟨oA (op_alloc _ _ zr24)⟩ ?_
    refine yk [60,16] [] ?_
    refine yt (16, .box 24 [.v (.int .i64 v11.1.Number), .fl (.own 5) 1 (List.map (Value.int .u8) v11.1.Data), .v (.bool v11.1.Ready), .v (.int .i64 v11.1.Base), .v (.int .i64 v11.1.Next), .v (.int .i64 v11.1.Wait), .v (.bool v11.1.Over)]) 1 ⟨op_store_take _ _ _ _ _ _ _ _ sz24 rfl rfl rfl (zl rfl) rfl rfl⟩ ?_
    refine yee [2,3,4,5,9,10,11,12,13,14,15,16,17] ?_
    refine ht_seq ?_
    obtain ⟨v12, hv12, h⟩ := bind_some h
    refine yx hn 2 ?_
    refine ys 0 ⟨lk call16 (ok_sender_New _ _ _ hv12)⟩ ?_
    refine ym 0 ?_
    refine yx_ 1 ?_
    refine yS (.box 24 [.v (.int .i64 0), .v (.slice none 0 0), .v (.bool false), .v (.int .i64 0), .v (.int .i64 0), .v (.int .i64 0), .v (.bool false)]) 0 ⟨oA (op_alloc _ _ zr24)⟩ ?_
    refine yk [66,18] [] ?_
    refine yt (18, .box 24 [.v (.int .i64 v12.1.Number), .fl (.own 5) 1 (List.map (Value.int .u8) v12.1.Data), .v (.bool v12.1.Ready), .v (.int .i64 v12.1.Base), .v (.int .i64 v12.1.Next), .v (.int .i64 v12.1.Wait), .v (.bool v12.1.Over)]) 1 ⟨op_store_take _ _ _ _ _ _ _ _ sz24 rfl rfl rfl (zl rfl) rfl rfl⟩ ?_
    refine yee [2,3,4,5,9,10,11,12,13,14,15,16,17,18,19] ?_
    refine yxx hn 2 ?_
    refine yS (.agg [.v (.int .i64 number), .fl .shr 1 (List.map (Value.int .u8) data), .v (.bool false), .v (.int .i64 0), .v (.int .i64 0), .v (.int .i64 0), .v (.bool false)]) 0 ⟨op_build _ _ _ _ [1, 1, 1, 1, 1, 1, 1] _ _ underlying24 zr24 (fs24 _ underlying24) (.copy _ (.copy _ Src.nil)) rfl rfl rfl⟩ ?_
    refine yS (.box 24 [.v (.int .i64 0), .v (.slice none 0 0), .v (.bool false), .v (.int .i64 0), .v (.int .i64 0), .v (.int .i64 0), .v (.bool false)]) 1 ⟨oA (op_alloc _ _ zr24)⟩ ?_
    refine yee [3,4,5,9,10,11,12,13,14,15,16,17,18,19,20] ?_
    refine ht_seq ?_
    obtain ⟨v13, hv13, h⟩ := bind_some h
    refine yx hn 1 ?_
    refine ys 1 ⟨lk call13 (ok_wherryref18_Send _ _ hv13)⟩ ?_
    refine yee [3,4,5,9,10,11,12,13,14,15,16,17,18,19,20,21] ?_
    refine ht_seq ?_
    refine ht_seq ?_
    refine ht_joinS h (fun (s21 : Bool) => [(3, .fl .shr 1 (List.map (Value.int .u8) data)), (4, .box 24 [.v (.int .i64 s.Number), .fl .shr 1 (List.map (Value.int .u8) s.Data), .v (.bool s.Ready), .v (.int .i64 s.Base), .v (.int .i64 s.Next), .v (.int .i64 s.Wait), .v (.bool s.Over)]), (5, .box 26 [.v (.int .i64 f.Kind), .v (.int .i64 f.Number), .v (.int .i64 f.Offset), .v (.int .i64 f.Seq), .fl .shr 1 (List.map (Value.int .u8) f.Data)]), (9, .box 24 [.v (.int .i64 v6.Number), .fl (.own 5) 1 (List.map (Value.int .u8) v6.Data), .v (.bool v6.Ready), .v (.int .i64 v6.Base), .v (.int .i64 v6.Next), .v (.int .i64 v6.Wait), .v (.bool v6.Over)]), (10, .box 26 [.v (.int .i64 v7.Kind), .v (.int .i64 v7.Number), .v (.int .i64 v7.Offset), .v (.int .i64 v7.Seq), .fl (.own 5) 1 (List.map (Value.int .u8) v7.Data)]), (11, .fl (.own 5) 1 (List.map (Value.int .u8) v8)), (12, .v (.bool v9)), (13, .box 24 [.v (.int .i64 v10.1.Number), .fl (.own 5) 1 (List.map (Value.int .u8) v10.1.Data), .v (.bool v10.1.Ready), .v (.int .i64 v10.1.Base), .v (.int .i64 v10.1.Next), .v (.int .i64 v10.1.Wait), .v (.bool v10.1.Over)]), (14, .hid (ownJ 26 5 (List.flatten (List.map oe26 v10.2.1)))), (15, .v (.int .i64 v10.2.2)), (16, .box 24 [.v (.int .i64 v11.1.Number), .fl (.own 5) 1 (List.map (Value.int .u8) v11.1.Data), .v (.bool v11.1.Ready), .v (.int .i64 v11.1.Base), .v (.int .i64 v11.1.Next), .v (.int .i64 v11.1.Wait), .v (.bool v11.1.Over)]), (17, .v (.int .i64 v11.2)), (111, .v (.bool s21))]) ?_ ?_
    ·rintro s21 h
     refine pt_then ?_
     refine ht_cond _ rfl (fun hb25 => ?_) (fun hb25 => ?_)
     ·have h := cond_t hb25 h
      refine yyy hn 1 [8] ?_
      refine ht_ret ?_
      refine pt_r_then ?_
      obtain rfl := Option.some.inj h
      exact pt_ret hio rfl (.tmp _ _ .nil) rfl rfl
     ·have h := cond_f hb25 h
      refine ht_skip ?_
      refine pt_then (ht_seq ?_)
      refine yyy hn 2 [3,4,5,9,10,11,13,14,15,16,17,113] ?_
      refine ht_cond _ rfl (fun hb26 => ?_) (fun hb26 => ?_)
      ·have h := cond_t hb26 h
       refine ht_seq ?_
       refine ht_joinS h (fun (s30 : Bool) => [(8, .v (.bool s30))]) ?_ ?_
       ·rintro s30 h
        refine pt_then (ht_ret ?_)
        refine pt_r_then ?_
        obtain rfl := Option.some.inj h
        exact pt_ret hio rfl (.tmp _ _ .nil) rfl rfl
       ·intro u31 h hl32 hr33
        refine cond_some h (fun hg13_2 h => ?_) (fun hg13_2 h => ?_)
        ·refine cond_some h (fun hg13_6 h => ?_) (fun hg13_6 h => ?_)
         ·obtain ⟨v27, hv27, h⟩ := bind_some h
          refine cond_some h (fun hg13_11 h => ?_) (fun hg13_11 h => ?_)
          ·obtain ⟨v28, hv28, h⟩ := bind_some h
           refine cond_some h (fun hg13_16 h => ?_) (fun hg13_16 h => ?_)
           ·refine cond_some h (fun hg13_21 h => ?_) (fun hg13_21 h => ?_)
            ·obtain ⟨v29, hv29, h⟩ := bind_some h
             refine yx hn 3 ?_
             refine yd hg13_2 4 ?_
             refine yd hg13_6 0 ?_
             refine yk [13] [] ?_
             refine yt (121, .agg [.v (.int .i64 v10.1.Number), .fl (.own 5) 1 (List.map (Value.int .u8) v10.1.Data), .v (.bool v10.1.Ready), .v (.int .i64 v10.1.Base), .v (.int .i64 v10.1.Next), .v (.int .i64 v10.1.Wait), .v (.bool v10.1.Over)]) 0 ⟨op_loadA_take _ _ _ _ underlying24 rfl sz24 rfl rfl⟩ ?_
             refine yS (.agg [.v (.int .i64 0), .v (.slice none 0 0), .v (.bool false), .v (.int .i64 0), .v (.int .i64 0), .v (.int .i64 0), .v (.bool false)]) 0 ⟨op_build _ _ _ _ [1, 1, 1, 1, 1, 1, 1] _ _ underlying24 zr24 (fs24 _ underlying24) Src.nil rfl rfl rfl⟩ ?_
             refine yS (.v (.bool v27)) 2 ⟨op_call _ _ 20 _ _ rfl call20 rfl ((ok_wherrykeep_Send v10.1 (T_Send.mk 0 [] false 0 0 0 false) _ hv27).args (subs_cons (sub_refl _) (subs_cons (sub_agg (subs_cons (sub_refl _) (subs_cons (sub_nil_shr 1) (subs_cons (sub_refl _) (subs_cons (sub_refl _) (subs_cons (sub_refl _) (subs_cons (sub_refl _) (subs_cons (sub_refl _) (subs_nil))))))))) (subs_nil)))) rfl rfl⟩ ?_
             refine yd hg13_11 0 ?_
             refine yk [16] [] ?_
             refine yt (126, .agg [.v (.int .i64 v11.1.Number), .fl (.own 5) 1 (List.map (Value.int .u8) v11.1.Data), .v (.bool v11.1.Ready), .v (.int .i64 v11.1.Base), .v (.int .i64 v11.1.Next), .v (.int .i64 v11.1.Wait), .v (.bool v11.1.Over)]) 0 ⟨op_loadA_take _ _ _ _ underlying24 rfl sz24 rfl rfl⟩ ?_
             refine yS (.agg [.v (.int .i64 0), .v (.slice none 0 0), .v (.bool false), .v (.int .i64 0), .v (.int .i64 0), .v (.int .i64 0), .v (.bool false)]) 0 ⟨op_build _ _ _ _ [1, 1, 1, 1, 1, 1, 1] _ _ underlying24 zr24 (fs24 _ underlying24) Src.nil rfl rfl rfl⟩ ?_
             refine yS (.v (.bool v28)) 2 ⟨op_call _ _ 20 _ _ rfl call20 rfl ((ok_wherrykeep_Send v11.1 (T_Send.mk 0 [] false 0 0 0 false) _ hv28).args (subs_cons (sub_refl _) (subs_cons (sub_agg (subs_cons (sub_refl _) (subs_cons (sub_nil_shr 1) (subs_cons (sub_refl _) (subs_cons (sub_refl _) (subs_cons (sub_refl _) (subs_cons (sub_refl _) (subs_cons (sub_refl _) (subs_nil))))))))) (subs_nil)))) rfl rfl⟩ ?_
             refine yd hg13_16 0 ?_
             refine ym 0 ?_
             refine yS (.v (.int .i64 (v10.2.1.length : Int))) 3 ⟨op_len_own _ _ _ underlying31 rfl (gflat_len oe26_l _) (by decide)⟩ ?_
             refine yd hg13_21 0 ?_
             refine ys 2 ⟨lk call21 (ok_wherrylaw21_wakes _ hv29)⟩ ?_
             refine ye [8] ?_
             exact hl32 _ (Option.some.inj h).symm
            ·refine yx hn 3 ?_
             refine yd hg13_2 4 ?_
             refine yd hg13_6 0 ?_
             refine yk [13] [] ?_
             refine yt (121, .agg [.v (.int .i64 v10.1.Number), .fl (.own 5) 1 (List.map (Value.int .u8) v10.1.Data), .v (.bool v10.1.Ready), .v (.int .i64 v10.1.Base), .v (.int .i64 v10.1.Next), .v (.int .i64 v10.1.Wait), .v (.bool v10.1.Over)]) 0 ⟨op_loadA_take _ _ _ _ underlying24 rfl sz24 rfl rfl⟩ ?_
             refine yS (.agg [.v (.int .i64 0), .v (.slice none 0 0), .v (.bool false), .v (.int .i64 0), .v (.int .i64 0), .v (.int .i64 0), .v (.bool false)]) 0 ⟨op_build _ _ _ _ [1, 1, 1, 1, 1, 1, 1] _ _ underlying24 zr24 (fs24 _ underlying24) Src.nil rfl rfl rfl⟩ ?_
             refine yS (.v (.bool v27)) 2 ⟨op_call _ _ 20 _ _ rfl call20 rfl ((ok_wherrykeep_Send v10.1 (T_Send.mk 0 [] false 0 0 0 false) _ hv27).args (subs_cons (sub_refl _) (subs_cons (sub_agg (subs_cons (sub_refl _) (subs_cons (sub_nil_shr 1) (subs_cons (sub_refl _) (subs_cons (sub_refl _) (subs_cons (sub_refl _) (subs_cons (sub_refl _) (subs_cons (sub_refl _) (subs_nil))))))))) (subs_nil)))) rfl rfl⟩ ?_
             refine yd hg13_11 0 ?_
             refine yk [16] [] ?_
             refine yt (126, .agg [.v (.int .i64 v11.1.Number), .fl (.own 5) 1 (List.map (Value.int .u8) v11.1.Data), .v (.bool v11.1.Ready), .v (.int .i64 v11.1.Base), .v (.int .i64 v11.1.Next), .v (.int .i64 v11.1.Wait), .v (.bool v11.1.Over)]) 0 ⟨op_loadA_take _ _ _ _ underlying24 rfl sz24 rfl rfl⟩ ?_
             refine yS (.agg [.v (.int .i64 0), .v (.slice none 0 0), .v (.bool false), .v (.int .i64 0), .v (.int .i64 0), .v (.int .i64 0), .v (.bool false)]) 0 ⟨op_build _ _ _ _ [1, 1, 1, 1, 1, 1, 1] _ _ underlying24 zr24 (fs24 _ underlying24) Src.nil rfl rfl rfl⟩ ?_
             refine yS (.v (.bool v28)) 2 ⟨op_call _ _ 20 _ _ rfl call20 rfl ((ok_wherrykeep_Send v11.1 (T_Send.mk 0 [] false 0 0 0 false) _ hv28).args (subs_cons (sub_refl _) (subs_cons (sub_agg (subs_cons (sub_refl _) (subs_cons (sub_nil_shr 1) (subs_cons (sub_refl _) (subs_cons (sub_refl _) (subs_cons (sub_refl _) (subs_cons (sub_refl _) (subs_cons (sub_refl _) (subs_nil))))))))) (subs_nil)))) rfl rfl⟩ ?_
             refine yd hg13_16 0 ?_
             refine ym 0 ?_
             refine yS (.v (.int .i64 (v10.2.1.length : Int))) 3 ⟨op_len_own _ _ _ underlying31 rfl (gflat_len oe26_l _) (by decide)⟩ ?_
             refine yd hg13_21 3 ?_
             refine ye [8] ?_
             exact hl32 _ (Option.some.inj h).symm
           ·refine yx hn 3 ?_
            refine yd hg13_2 4 ?_
            refine yd hg13_6 0 ?_
            refine yk [13] [] ?_
            refine yt (121, .agg [.v (.int .i64 v10.1.Number), .fl (.own 5) 1 (List.map (Value.int .u8) v10.1.Data), .v (.bool v10.1.Ready), .v (.int .i64 v10.1.Base), .v (.int .i64 v10.1.Next), .v (.int .i64 v10.1.Wait), .v (.bool v10.1.Over)]) 0 ⟨op_loadA_take _ _ _ _ underlying24 rfl sz24 rfl rfl⟩ ?_
            refine yS (.agg [.v (.int .i64 0), .v (.slice none 0 0), .v (.bool false), .v (.int .i64 0), .v (.int .i64 0), .v (.int .i64 0), .v (.bool false)]) 0 ⟨op_build _ _ _ _ [1, 1, 1, 1, 1, 1, 1] _ _ underlying24 zr24 (fs24 _ underlying24) Src.nil rfl rfl rfl⟩ ?_
            refine yS (.v (.bool v27)) 2 ⟨op_call _ _ 20 _ _ rfl call20 rfl ((ok_wherrykeep_Send v10.1 (T_Send.mk 0 [] false 0 0 0 false) _ hv27).args (subs_cons (sub_refl _) (subs_cons (sub_agg (subs_cons (sub_refl _) (subs_cons (sub_nil_shr 1) (subs_cons (sub_refl _) (subs_cons (sub_refl _) (subs_cons (sub_refl _) (subs_cons (sub_refl _) (subs_cons (sub_refl _) (subs_nil))))))))) (subs_nil)))) rfl rfl⟩ ?_
            refine yd hg13_11 0 ?_
            refine yk [16] [] ?_
            refine yt (126, .agg [.v (.int .i64 v11.1.Number), .fl (.own 5) 1 (List.map (Value.int .u8) v11.1.Data), .v (.bool v11.1.Ready), .v (.int .i64 v11.1.Base), .v (.int .i64 v11.1.Next), .v (.int .i64 v11.1.Wait), .v (.bool v11.1.Over)]) 0 ⟨op_loadA_take _ _ _ _ underlying24 rfl sz24 rfl rfl⟩ ?_
            refine yS (.agg [.v (.int .i64 0), .v (.slice none 0 0), .v (.bool false), .v (.int .i64 0), .v (.int .i64 0), .v (.int .i64 0), .v (.bool false)]) 0 ⟨op_build _ _ _ _ [1, 1, 1, 1, 1, 1, 1] _ _ underlying24 zr24 (fs24 _ underlying24) Src.nil rfl rfl rfl⟩ ?_
            refine yS (.v (.bool v28)) 2 ⟨op_call _ _ 20 _ _ rfl call20 rfl ((ok_wherrykeep_Send v11.1 (T_Send.mk 0 [] false 0 0 0 false) _ hv28).args (subs_cons (sub_refl _) (subs_cons (sub_agg (subs_cons (sub_refl _) (subs_cons (sub_nil_shr 1) (subs_cons (sub_refl _) (subs_cons (sub_refl _) (subs_cons (sub_refl _) (subs_cons (sub_refl _) (subs_cons (sub_refl _) (subs_nil))))))))) (subs_nil)))) rfl rfl⟩ ?_
            refine yd hg13_16 8 ?_
            refine ye [8] ?_
            exact hl32 _ (Option.some.inj h).symm
          ·refine yx hn 3 ?_
           refine yd hg13_2 4 ?_
           refine yd hg13_6 0 ?_
           refine yk [13] [] ?_
           refine yt (121, .agg [.v (.int .i64 v10.1.Number), .fl (.own 5) 1 (List.map (Value.int .u8) v10.1.Data), .v (.bool v10.1.Ready), .v (.int .i64 v10.1.Base), .v (.int .i64 v10.1.Next), .v (.int .i64 v10.1.Wait), .v (.bool v10.1.Over)]) 0 ⟨op_loadA_take _ _ _ _ underlying24 rfl sz24 rfl rfl⟩ ?_
           refine yS (.agg [.v (.int .i64 0), .v (.slice none 0 0), .v (.bool false), .v (.int .i64 0), .v (.int .i64 0), .v (.int .i64 0), .v (.bool false)]) 0 ⟨op_build _ _ _ _ [1, 1, 1, 1, 1, 1, 1] _ _ underlying24 zr24 (fs24 _ underlying24) Src.nil rfl rfl rfl⟩ ?_
           refine yS (.v (.bool v27)) 2 ⟨op_call _ _ 20 _ _ rfl call20 rfl ((ok_wherrykeep_Send v10.1 (T_Send.mk 0 [] false 0 0 0 false) _ hv27).args (subs_cons (sub_refl _) (subs_cons (sub_agg (subs_cons (sub_refl _) (subs_cons (sub_nil_shr 1) (subs_cons (sub_refl _) (subs_cons (sub_refl _) (subs_cons (sub_refl _) (subs_cons (sub_refl _) (subs_cons (sub_refl _) (subs_nil))))))))) (subs_nil)))) rfl rfl⟩ ?_
           refine yd hg13_11 13 ?_
           refine ye [8] ?_
           exact hl32 _ (Option.some.inj h).symm
         ·refine yx hn 3 ?_
          refine yd hg13_2 4 ?_
          refine yd hg13_6 18 ?_
          refine ye [8] ?_
          exact hl32 _ (Option.some.inj h).symm
        ·refine yx hn 3 ?_
         refine yd hg13_2 22 ?_
         refine ye [8] ?_
         exact hl32 _ (Option.some.inj h).symm
      ·have h := cond_f hb26 h
       refine ht_skip ?_
       refine pt_then (ht_seq ?_)
       obtain ⟨v34, hv34, h⟩ := bind_some h
       refine yx hn 1 ?_
       refine ys 0 ⟨lk call22 (ok_wherryref18_Tick _ _ hv34)⟩ ?_
       refine ym 0 ?_
       refine yx_ 0 ?_
       refine yx_ 0 ?_
       refine yS (.box 24 [.v (.int .i64 0), .v (.slice none 0 0), .v (.bool false), .v (.int .i64 0), .v (.int .i64 0), .v (.int .i64 0), .v (.bool false)]) 0 ⟨oA (op_alloc _ _ zr24)⟩ ?_
       refine yk [141,22] [] ?_
       refine yt (22, .box 24 [.v (.int .i64 v34.1.Number), .fl (.own 5) 1 (List.map (Value.int .u8) v34.1.Data), .v (.bool v34.1.Ready), .v (.int .i64 v34.1.Base), .v (.int .i64 v34.1.Next), .v (.int .i64 v34.1.Wait), .v (.bool v34.1.Over)]) 0 ⟨op_store_take _ _ _ _ _ _ _ _ sz24 rfl rfl rfl (zl rfl) rfl rfl⟩ ?_
       refine ya 0 ?_
       refine yee [3,4,5,9,10,11,13,14,15,16,17,22,23] ?_
       refine ht_seq ?_
       refine ht_seq ?_
       refine ht_joinS h (fun (s37 : Bool) => [(3, .fl .shr 1 (List.map (Value.int .u8) data)), (4, .box 24 [.v (.int .i64 s.Number), .fl .shr 1 (List.map (Value.int .u8) s.Data), .v (.bool s.Ready), .v (.int .i64 s.Base), .v (.int .i64 s.Next), .v (.int .i64 s.Wait), .v (.bool s.Over)]), (5, .box 26 [.v (.int .i64 f.Kind), .v (.int .i64 f.Number), .v (.int .i64 f.Offset), .v (.int .i64 f.Seq), .fl .shr 1 (List.map (Value.int .u8) f.Data)]), (9, .box 24 [.v (.int .i64 v6.Number), .fl (.own 5) 1 (List.map (Value.int .u8) v6.Data), .v (.bool v6.Ready), .v (.int .i64 v6.Base), .v (.int .i64 v6.Next), .v (.int .i64 v6.Wait), .v (.bool v6.Over)]), (10, .box 26 [.v (.int .i64 v7.Kind), .v (.int .i64 v7.Number), .v (.int .i64 v7.Offset), .v (.int .i64 v7.Seq), .fl (.own 5) 1 (List.map (Value.int .u8) v7.Data)]), (11, .fl (.own 5) 1 (List.map (Value.int .u8) v8)), (13, .box 24 [.v (.int .i64 v10.1.Number), .fl (.own 5) 1 (List.map (Value.int .u8) v10.1.Data), .v (.bool v10.1.Ready), .v (.int .i64 v10.1.Base), .v (.int .i64 v10.1.Next), .v (.int .i64 v10.1.Wait), .v (.bool v10.1.Over)]), (14, .hid (ownJ 26 5 (List.flatten (List.map oe26 v10.2.1)))), (16, .box 24 [.v (.int .i64 v11.1.Number), .fl (.own 5) 1 (List.map (Value.int .u8) v11.1.Data), .v (.bool v11.1.Ready), .v (.int .i64 v11.1.Base), .v (.int .i64 v11.1.Next), .v (.int .i64 v11.1.Wait), .v (.bool v11.1.Over)]), (17, .v (.int .i64 v11.2)), (156, .v (.bool s37))]) ?_ ?_
       ·rintro s37 h
        refine pt_then ?_
        refine ht_cond _ rfl (fun hb41 => ?_) (fun hb41 => ?_)
        ·have h := cond_t hb41 h
         refine yyy hn 1 [8] ?_
         refine ht_ret ?_
         refine pt_r_then ?_
         obtain rfl := Option.some.inj h
         exact pt_ret hio rfl (.tmp _ _ .nil) rfl rfl
        ·have h := cond_f hb41 h
         refine ht_skip ?_
         refine pt_then ?_
         refine yxx hn 0 ?_
         refine yS (.agg [.v (.int .i64 0), .v (.slice none 0 0), .v (.bool false), .v (.int .i64 0), .v (.int .i64 0), .v (.int .i64 0), .v (.bool false)]) 0 ⟨op_build _ _ _ _ [1, 1, 1, 1, 1, 1, 1] _ _ underlying24 zr24 (fs24 _ underlying24) Src.nil rfl rfl rfl⟩ ?_
         refine yS (.box 24 [.v (.int .i64 0), .v (.slice none 0 0), .v (.bool false), .v (.int .i64 0), .v (.int .i64 0), .v (.int .i64 0), .v (.bool false)]) 0 ⟨oA (op_alloc _ _ zr24)⟩ ?_
         refine yk [157,24] [] ?_
         refine yt (24, .box 24 [.v (.int .i64 0), .v (.slice none 0 0), .v (.bool false), .v (.int .i64 0), .v (.int .i64 0), .v (.int .i64 0), .v (.bool false)]) 1 ⟨op_store_self _ _ _ 157 24 7 sz24 rfl rfl rfl rfl rfl (.eq _ (.eq _ (.eq _ (.eq _ (.eq _ (.eq _ (.eq _ (.nil _)))))))) rfl⟩ ?_
         refine yee [3,4,5,9,10,11,13,14,16,17,24,25] ?_
         refine ht_seq ?_
         refine ht_joinS h (fun ((s45, s46, s47, s48, s49, s50, s51, s52) : Int × (List Int) × Bool × Int × Int × Int × Bool × Int) => [(3, .fl .shr 1 (List.map (Value.int .u8) data)), (4, .box 24 [.v (.int .i64 s.Number), .fl .shr 1 (List.map (Value.int .u8) s.Data), .v (.bool s.Ready), .v (.int .i64 s.Base), .v (.int .i64 s.Next), .v (.int .i64 s.Wait), .v (.bool s.Over)]), (5, .box 26 [.v (.int .i64 f.Kind), .v (.int .i64 f.Number), .v (.int .i64 f.Offset), .v (.int .i64 f.Seq), .fl .shr 1 (List.map (Value.int .u8) f.Data)]), (9, .box 24 [.v (.int .i64 v6.Number), .fl (.own 5) 1 (List.map (Value.int .u8) v6.Data), .v (.bool v6.Ready), .v (.int .i64 v6.Base), .v (.int .i64 v6.Next), .v (.int .i64 v6.Wait), .v (.bool v6.Over)]), (10, .box 26 [.v (.int .i64 v7.Kind), .v (.int .i64 v7.Number), .v (.int .i64 v7.Offset), .v (.int .i64 v7.Seq), .fl (.own 5) 1 (List.map (Value.int .u8) v7.Data)]), (11, .fl (.own 5) 1 (List.map (Value.int .u8) v8)), (13, .box 24 [.v (.int .i64 v10.1.Number), .fl (.own 5) 1 (List.map (Value.int .u8) v10.1.Data), .v (.bool v10.1.Ready), .v (.int .i64 v10.1.Base), .v (.int .i64 v10.1.Next), .v (.int .i64 v10.1.Wait), .v (.bool v10.1.Over)]), (14, .hid (ownJ 26 5 (List.flatten (List.map oe26 v10.2.1)))), (16, .box 24 [.v (.int .i64 v11.1.Number), .fl (.own 5) 1 (List.map (Value.int .u8) v11.1.Data), .v (.bool v11.1.Ready), .v (.int .i64 v11.1.Base), .v (.int .i64 v11.1.Next), .v (.int .i64 v11.1.Wait), .v (.bool v11.1.Over)]), (17, .v (.int .i64 v11.2)), (24, .box 24 [.v (.int .i64 s45), .fl (.own 5) 1 (List.map (Value.int .u8) s46), .v (.bool s47), .v (.int .i64 s48), .v (.int .i64 s49), .v (.int .i64 s50), .v (.bool s51)]), (25, .v (.int .i64 s52))]) ?_ ?_
         ·rintro ⟨s45, s46, s47, s48, s49, s50, s51, s52⟩ h
          refine pt_then (ht_seq ?_)
          refine ht_seq ?_
          refine ht_joinS h (fun (s58 : Bool) => [(3, .fl .shr 1 (List.map (Value.int .u8) data)), (4, .box 24 [.v (.int .i64 s.Number), .fl .shr 1 (List.map (Value.int .u8) s.Data), .v (.bool s.Ready), .v (.int .i64 s.Base), .v (.int .i64 s.Next), .v (.int .i64 s.Wait), .v (.bool s.Over)]), (5, .box 26 [.v (.int .i64 f.Kind), .v (.int .i64 f.Number), .v (.int .i64 f.Offset), .v (.int .i64 f.Seq), .fl .shr 1 (List.map (Value.int .u8) f.Data)]), (9, .box 24 [.v (.int .i64 v6.Number), .fl (.own 5) 1 (List.map (Value.int .u8) v6.Data), .v (.bool v6.Ready), .v (.int .i64 v6.Base), .v (.int .i64 v6.Next), .v (.int .i64 v6.Wait), .v (.bool v6.Over)]), (10, .box 26 [.v (.int .i64 v7.Kind), .v (.int .i64 v7.Number), .v (.int .i64 v7.Offset), .v (.int .i64 v7.Seq), .fl (.own 5) 1 (List.map (Value.int .u8) v7.Data)]), (11, .fl (.own 5) 1 (List.map (Value.int .u8) v8)), (13, .box 24 [.v (.int .i64 v10.1.Number), .fl (.own 5) 1 (List.map (Value.int .u8) v10.1.Data), .v (.bool v10.1.Ready), .v (.int .i64 v10.1.Base), .v (.int .i64 v10.1.Next), .v (.int .i64 v10.1.Wait), .v (.bool v10.1.Over)]), (14, .hid (ownJ 26 5 (List.flatten (List.map oe26 v10.2.1)))), (174, .v (.bool s58))]) ?_ ?_
          ·rintro s58 h
           refine pt_then ?_
           refine ht_cond _ rfl (fun hb62 => ?_) (fun hb62 => ?_)
           ·have h := cond_t hb62 h
            refine yyy hn 1 [8] ?_
            refine ht_ret ?_
            refine pt_r_then ?_
            obtain rfl := Option.some.inj h
            exact pt_ret hio rfl (.tmp _ _ .nil) rfl rfl
           ·have h := cond_f hb62 h
            refine ht_skip ?_
            refine pt_then (ht_seq ?_)
            refine yyy hn 1 [3,4,5,9,10,11,13,14,26] ?_
            refine ht_loopS h (fun ((s71, s72) : (List T_Frame) × Int) => [(3, .fl .shr 1 (List.map (Value.int .u8) data)), (4, .box 24 [.v (.int .i64 s.Number), .fl .shr 1 (List.map (Value.int .u8) s.Data), .v (.bool s.Ready), .v (.int .i64 s.Base), .v (.int .i64 s.Next), .v (.int .i64 s.Wait), .v (.bool s.Over)]), (5, .box 26 [.v (.int .i64 f.Kind), .v (.int .i64 f.Number), .v (.int .i64 f.Offset), .v (.int .i64 f.Seq), .fl .shr 1 (List.map (Value.int .u8) f.Data)]), (9, .box 24 [.v (.int .i64 v6.Number), .fl (.own 5) 1 (List.map (Value.int .u8) v6.Data), .v (.bool v6.Ready), .v (.int .i64 v6.Base), .v (.int .i64 v6.Next), .v (.int .i64 v6.Wait), .v (.bool v6.Over)]), (10, .box 26 [.v (.int .i64 v7.Kind), .v (.int .i64 v7.Number), .v (.int .i64 v7.Offset), .v (.int .i64 v7.Seq), .fl (.own 5) 1 (List.map (Value.int .u8) v7.Data)]), (11, .fl (.own 5) 1 (List.map (Value.int .u8) v8)), (13, .box 24 [.v (.int .i64 v10.1.Number), .fl (.own 5) 1 (List.map (Value.int .u8) v10.1.Data), .v (.bool v10.1.Ready), .v (.int .i64 v10.1.Base), .v (.int .i64 v10.1.Next), .v (.int .i64 v10.1.Wait), .v (.bool v10.1.Over)]), (14, .hid (ownJ 26 5 (List.flatten (List.map oe26 s71)))), (26, .v (.int .i64 s72))]) (fun (() : Unit) => [(3, .fl .shr 1 (List.map (Value.int .u8) data)), (4, .box 24 [.v (.int .i64 s.Number), .fl .shr 1 (List.map (Value.int .u8) s.Data), .v (.bool s.Ready), .v (.int .i64 s.Base), .v (.int .i64 s.Next), .v (.int .i64 s.Wait), .v (.bool s.Over)]), (5, .box 26 [.v (.int .i64 f.Kind), .v (.int .i64 f.Number), .v (.int .i64 f.Offset), .v (.int .i64 f.Seq), .fl .shr 1 (List.map (Value.int .u8) f.Data)]), (9, .box 24 [.v (.int .i64 v6.Number), .fl (.own 5) 1 (List.map (Value.int .u8) v6.Data), .v (.bool v6.Ready), .v (.int .i64 v6.Base), .v (.int .i64 v6.Next), .v (.int .i64 v6.Wait), .v (.bool v6.Over)]), (10, .box 26 [.v (.int .i64 v7.Kind), .v (.int .i64 v7.Number), .v (.int .i64 v7.Offset), .v (.int .i64 v7.Seq), .fl (.own 5) 1 (List.map (Value.int .u8) v7.Data)]), (11, .fl (.own 5) 1 (List.map (Value.int .u8) v8)), (13, .box 24 [.v (.int .i64 v10.1.Number), .fl (.own 5) 1 (List.map (Value.int .u8) v10.1.Data), .v (.bool v10.1.Ready), .v (.int .i64 v10.1.Base), .v (.int .i64 v10.1.Next), .v (.int .i64 v10.1.Wait), .v (.bool v10.1.Over)])]) ?_ ?_
            ·rintro ⟨⟩ h
             refine pt_then (ht_seq ?_)
             obtain ⟨v81, hv81, h⟩ := bind_some h
             refine yx hn 2 ?_
             refine yk [13] [188] ?_
             refine ytt (13, .box 24 [.v (.int .i64 v10.1.Number), .any, .v (.bool v10.1.Ready), .v (.int .i64 v10.1.Base), .v (.int .i64 v10.1.Next), .v (.int .i64 v10.1.Wait), .v (.bool v10.1.Over)]) (189, .tup []) 0 ⟨op_callE_cell _ _ 13 1 26 _ _ rfl call26 rfl rfl (zl rfl) rfl (ok_wherrykeep_Over v10.1.Data _ hv81) rfl rfl rfl (by decide) rfl rfl⟩ ?_
             refine yee [3,4,5,9,10,11] ?_
             refine ht_seq ?_
             refine ht_joinS h (fun (s86 : Bool) => [(8, .v (.bool s86))]) ?_ ?_
             ·rintro s86 h
              refine pt_then (ht_ret ?_)
              obtain rfl := Option.some.inj h
              exact pt_ret hio rfl (.tmp _ _ .nil) rfl rfl
             ·intro u87 h hl88 hr89
              obtain ⟨v82, hv82, h⟩ := bind_some h
              refine cond_some h (fun hg27_3 h => ?_) (fun hg27_3 h => ?_)
              ·obtain ⟨v83, hv83, h⟩ := bind_some h
               refine cond_some h (fun hg27_8 h => ?_) (fun hg27_8 h => ?_)
               ·obtain ⟨v84, hv84, h⟩ := bind_some h
                refine cond_some h (fun hg27_13 h => ?_) (fun hg27_13 h => ?_)
                ·obtain ⟨v85, hv85, h⟩ := bind_some h
                 refine yx hn 0 ?_
                 refine yk [9] [] ?_
                 refine yt (190, .agg [.v (.int .i64 v6.Number), .fl (.own 5) 1 (List.map (Value.int .u8) v6.Data), .v (.bool v6.Ready), .v (.int .i64 v6.Base), .v (.int .i64 v6.Next), .v (.int .i64 v6.Wait), .v (.bool v6.Over)]) 1 ⟨op_loadA_take _ _ _ _ underlying24 rfl sz24 rfl rfl⟩ ?_
                 refine ys 1 ⟨lk call20 (ok_wherrykeep_Send _ _ _ hv82)⟩ ?_
                 refine yd hg27_3 0 ?_
                 refine yk [10] [] ?_
                 refine yt (194, .agg [.v (.int .i64 v7.Kind), .v (.int .i64 v7.Number), .v (.int .i64 v7.Offset), .v (.int .i64 v7.Seq), .fl (.own 5) 1 (List.map (Value.int .u8) v7.Data)]) 1 ⟨op_loadA_take _ _ _ _ underlying26 rfl sz26 rfl rfl⟩ ?_
                 refine ys 2 ⟨lk call27 (ok_wherrykeep_Frame _ _ _ hv83)⟩ ?_
                 refine yd hg27_8 0 ?_
                 refine ym 1 ?_
                 refine ys 2 ⟨lk call28 (ok_wherrykeep_Bytes _ _ _ hv84)⟩ ?_
                 refine yd hg27_13 0 ?_
                 refine ys 2 ⟨lk call21 (ok_wherrylaw21_wakes _ hv85)⟩ ?_
                 refine ye [8] ?_
                 exact hl88 _ (Option.some.inj h).symm
                ·refine yx hn 0 ?_
                 refine yk [9] [] ?_
                 refine yt (190, .agg [.v (.int .i64 v6.Number), .fl (.own 5) 1 (List.map (Value.int .u8) v6.Data), .v (.bool v6.Ready), .v (.int .i64 v6.Base), .v (.int .i64 v6.Next), .v (.int .i64 v6.Wait), .v (.bool v6.Over)]) 1 ⟨op_loadA_take _ _ _ _ underlying24 rfl sz24 rfl rfl⟩ ?_
                 refine ys 1 ⟨lk call20 (ok_wherrykeep_Send _ _ _ hv82)⟩ ?_
                 refine yd hg27_3 0 ?_
                 refine yk [10] [] ?_
                 refine yt (194, .agg [.v (.int .i64 v7.Kind), .v (.int .i64 v7.Number), .v (.int .i64 v7.Offset), .v (.int .i64 v7.Seq), .fl (.own 5) 1 (List.map (Value.int .u8) v7.Data)]) 1 ⟨op_loadA_take _ _ _ _ underlying26 rfl sz26 rfl rfl⟩ ?_
                 refine ys 2 ⟨lk call27 (ok_wherrykeep_Frame _ _ _ hv83)⟩ ?_
                 refine yd hg27_8 0 ?_
                 refine ym 1 ?_
                 refine ys 2 ⟨lk call28 (ok_wherrykeep_Bytes _ _ _ hv84)⟩ ?_
                 refine yd hg27_13 3 ?_
                 refine ye [8] ?_
                 exact hl88 _ (Option.some.inj h).symm
               ·refine yx hn 0 ?_
                refine yk [9] [] ?_
                refine yt (190, .agg [.v (.int .i64 v6.Number), .fl (.own 5) 1 (List.map (Value.int .u8) v6.Data), .v (.bool v6.Ready), .v (.int .i64 v6.Base), .v (.int .i64 v6.Next), .v (.int .i64 v6.Wait), .v (.bool v6.Over)]) 1 ⟨op_loadA_take _ _ _ _ underlying24 rfl sz24 rfl rfl⟩ ?_
                refine ys 1 ⟨lk call20 (ok_wherrykeep_Send _ _ _ hv82)⟩ ?_
                refine yd hg27_3 0 ?_
                refine yk [10] [] ?_
                refine yt (194, .agg [.v (.int .i64 v7.Kind), .v (.int .i64 v7.Number), .v (.int .i64 v7.Offset), .v (.int .i64 v7.Seq), .fl (.own 5) 1 (List.map (Value.int .u8) v7.Data)]) 1 ⟨op_loadA_take _ _ _ _ underlying26 rfl sz26 rfl rfl⟩ ?_
                refine ys 2 ⟨lk call27 (ok_wherrykeep_Frame _ _ _ hv83)⟩ ?_
                refine yd hg27_8 8 ?_
                refine ye [8] ?_
                exact hl88 _ (Option.some.inj h).symm
              ·refine yx hn 0 ?_
               refine yk [9] [] ?_
               refine yt (190, .agg [.v (.int .i64 v6.Number), .fl (.own 5) 1 (List.map (Value.int .u8) v6.Data), .v (.bool v6.Ready), .v (.int .i64 v6.Base), .v (.int .i64 v6.Next), .v (.int .i64 v6.Wait), .v (.bool v6.Over)]) 1 ⟨op_loadA_take _ _ _ _ underlying24 rfl sz24 rfl rfl⟩ ?_
               refine ys 1 ⟨lk call20 (ok_wherrykeep_Send _ _ _ hv82)⟩ ?_
               refine yd hg27_3 13 ?_
               refine ye [8] ?_
               exact hl88 _ (Option.some.inj h).symm
            ·rintro u74 hl75 hr76 ⟨s71, s72⟩ rr79 h ho77
             refine ht_seq ?_
             refine yxx hn 1 ?_
             refine yS (.same (.slot 14)) 0 ⟨op_move_name _ _ _ rfl⟩ ?_
             refine yS (.v (.int .i64 (s71.length : Int))) 1 ⟨op_len_own _ _ _ underlying31 rfl (gflat_len oe26_l _) (by decide)⟩ ?_
             refine yee [3,4,5,9,10,11,13,14,26,178] ?_
             refine ht_cond _ rfl (fun hb80 => ?_) (fun hb80 => ?_)
             ·have h := cond_t hb80 h
              refine ht_skip ?_
              refine pt_then (ht_seq ?_)
              refine ht_block ?_
              obtain ⟨v64, hv64, h⟩ := bind_some h
              obtain ⟨v65, hv65, h⟩ := bind_some h
              obtain ⟨v66, hv66, h⟩ := bind_some h
              refine ht_pick [7, 0, 1, 2, 3, 4, 5, 6, 8, 9] rfl rfl ?_
              refine ht_openO 215 fun ov25 oh25 => ?_
              refine yx hn 2 ?_
              refine yS (.eref (.slot 14) (v64 * 5)) 1 ⟨op_ix _ _ _ _ _ _ _ _ underlying31 sz26 (by decide) rfl rfl rfl (ix_ok hv64).1 (oe_lt oe26_l oh25 (ix_ok hv64).2) rfl⟩ ?_
              refine yS (.v (List.getD ov25 (v64 * 5 + 4) undef)) 0 ⟨op_load_e _ _ _ _ _ _ underlying22 rfl rfl rfl (oe_get oe26_l oh25 hv65 (by decide))⟩ ?_
              refine yk [215] [185] ?_
              refine ytt (215, .inv (ownI (List.flatten (List.map oe26 ((s71.set v64 (T_Frame.mk v65.Kind v65.Number v65.Offset v65.Seq v66))))) ov25)) (186, .tup []) 0 ⟨op_callElW _ _ 215 (v64 * 5 + 4) 26 (x := .tmp 185) (ys := []) _ _ rfl call26 rfl rfl (oe_get oe26_l oh25 hv65 (by decide)) (gflat_cell oe26_l hv65 rfl) (oe_set oe26_l hv65 (y := (T_Frame.mk v65.Kind v65.Number v65.Offset v65.Seq v66)) rfl (by decide)) rfl (ok_wherrykeep_Over_row v65.Data _ hv66) rfl rfl rfl⟩ ?_
              refine ye [14,215,3,4,5,9,10,11,13,26] ?_
              refine pt_closeO ?_
              refine pt_inb ?_
              refine pt_then ?_
              obtain ⟨v67, hv67, h⟩ := bind_some h
              refine yx hn 1 ?_
              refine ys 0 ⟨lb hv67⟩ ?_
              refine yw [26] 1 ?_
              refine ye [14,3,4,5,9,10,11,13,26] ?_
              refine pt_pick [1, 2, 3, 4, 5, 6, 7, 0, 8] (by kernel_rfl) (es' := [(_,_),(_,_),(_,_),(_,_),(_,_),(_,_),(_,_),(_,_),(_,_)]) rfl ?_
              exact pt_next _ (Option.some.inj h).symm rfl
             ·have h := cond_f hb80 h
              refine ht_exit ?_
              refine pt_x_then ?_
              refine pt_x_then ?_
              refine pt_x_in ?_
              refine pt_pick [0, 1, 2, 3, 4, 5, 6] (by kernel_rfl) (es' := [(_,_),(_,_),(_,_),(_,_),(_,_),(_,_),(_,_)]) rfl ?_
              exact hl75 _ (ho77 _ (Option.some.inj h).symm).symm
          ·intro u59 h hl60 hr61
           refine cond_some h (fun hg20_3 h => ?_) (fun hg20_3 h => ?_)
           ·refine yx hn 4 ?_
            refine yd hg20_3 5 ?_
            refine ye [3,4,5,9,10,11,13,14,174] ?_
            exact hl60 _ (Option.some.inj h).symm
           ·obtain ⟨v57, hv57, h⟩ := bind_some h
            refine yx hn 4 ?_
            refine yd hg20_3 0 ?_
            refine yk [16] [] ?_
            refine yt (170, .agg [.v (.int .i64 v11.1.Number), .fl (.own 5) 1 (List.map (Value.int .u8) v11.1.Data), .v (.bool v11.1.Ready), .v (.int .i64 v11.1.Base), .v (.int .i64 v11.1.Next), .v (.int .i64 v11.1.Wait), .v (.bool v11.1.Over)]) 0 ⟨op_loadA_take _ _ _ _ underlying24 rfl sz24 rfl rfl⟩ ?_
            refine yk [24] [] ?_
            refine yt (171, .agg [.v (.int .i64 s45), .fl (.own 5) 1 (List.map (Value.int .u8) s46), .v (.bool s47), .v (.int .i64 s48), .v (.int .i64 s49), .v (.int .i64 s50), .v (.bool s51)]) 0 ⟨op_loadA_take _ _ _ _ underlying24 rfl sz24 rfl rfl⟩ ?_
            refine ys 2 ⟨lk call20 (ok_wherrykeep_Send _ _ _ hv57)⟩ ?_
            refine ye [3,4,5,9,10,11,13,14,174] ?_
            exact hl60 _ (Option.some.inj h).symm
         ·intro u53 h hl54 hr55
          refine ht_seq ?_
          obtain ⟨v42, hv42, h⟩ := bind_some h
          refine yx hn 1 ?_
          refine ys 0 ⟨lk call24 (ok_wherryref18_Frame _ _ hv42)⟩ ?_
          refine yee [3,4,5,9,10,11,13,14,16,17,24,25,159] ?_
          refine ht_cond _ rfl (fun hb56 => ?_) (fun hb56 => ?_)
          ·have h := cond_t hb56 h
           obtain ⟨v44, hv44, h⟩ := bind_some h
           refine yx hn 2 ?_
           refine ys 0 ⟨lk call25 (ok_wherryref18_Hear _ _ _ hv44)⟩ ?_
           refine ym 0 ?_
           refine yx_ 1 ?_
           refine yk [164,24] [] ?_
           refine yt (24, .box 24 [.v (.int .i64 v44.1.Number), .fl (.own 5) 1 (List.map (Value.int .u8) v44.1.Data), .v (.bool v44.1.Ready), .v (.int .i64 v44.1.Base), .v (.int .i64 v44.1.Next), .v (.int .i64 v44.1.Wait), .v (.bool v44.1.Over)]) 0 ⟨op_store_take _ _ _ _ _ _ _ _ sz24 rfl rfl rfl (zl rfl) rfl rfl⟩ ?_
           refine yw [25] 1 ?_
           refine ye [3,4,5,9,10,11,13,14,16,17,24,25] ?_
           exact hl54 _ (Option.some.inj h).symm
          ·have h := cond_f hb56 h
           refine ht_skip ?_
           refine pt_pick [0, 1, 2, 3, 4, 5, 6, 7, 8, 9, 10, 11] (by kernel_rfl) (es' := [(_,_),(_,_),(_,_),(_,_),(_,_),(_,_),(_,_),(_,_),(_,_),(_,_),(_,_),(_,_)]) rfl ?_
           refine pt_sub (fs := [(3, .fl .shr 1 (List.map (Value.int .u8) data)), (4, .box 24 [.v (.int .i64 s.Number), .fl .shr 1 (List.map (Value.int .u8) s.Data), .v (.bool s.Ready), .v (.int .i64 s.Base), .v (.int .i64 s.Next), .v (.int .i64 s.Wait), .v (.bool s.Over)]), (5, .box 26 [.v (.int .i64 f.Kind), .v (.int .i64 f.Number), .v (.int .i64 f.Offset), .v (.int .i64 f.Seq), .fl .shr 1 (List.map (Value.int .u8) f.Data)]), (9, .box 24 [.v (.int .i64 v6.Number), .fl (.own 5) 1 (List.map (Value.int .u8) v6.Data), .v (.bool v6.Ready), .v (.int .i64 v6.Base), .v (.int .i64 v6.Next), .v (.int .i64 v6.Wait), .v (.bool v6.Over)]), (10, .box 26 [.v (.int .i64 v7.Kind), .v (.int .i64 v7.Number), .v (.int .i64 v7.Offset), .v (.int .i64 v7.Seq), .fl (.own 5) 1 (List.map (Value.int .u8) v7.Data)]), (11, .fl (.own 5) 1 (List.map (Value.int .u8) v8)), (13, .box 24 [.v (.int .i64 v10.1.Number), .fl (.own 5) 1 (List.map (Value.int .u8) v10.1.Data), .v (.bool v10.1.Ready), .v (.int .i64 v10.1.Base), .v (.int .i64 v10.1.Next), .v (.int .i64 v10.1.Wait), .v (.bool v10.1.Over)]), (14, .hid (ownJ 26 5 (List.flatten (List.map oe26 v10.2.1)))), (16, .box 24 [.v (.int .i64 v11.1.Number), .fl (.own 5) 1 (List.map (Value.int .u8) v11.1.Data), .v (.bool v11.1.Ready), .v (.int .i64 v11.1.Base), .v (.int .i64 v11.1.Next), .v (.int .i64 v11.1.Wait), .v (.bool v11.1.Over)]), (17, .v (.int .i64 v11.2)), (24, .box 24 [.v (.int .i64 0), .fl (.own 5) 1 (List.map (Value.int .u8) []), .v (.bool false), .v (.int .i64 0), .v (.int .i64 0), .v (.int .i64 0), .v (.bool false)]), (25, .v (.int .i64 1))]) (.same _ (.same _ (.same _ (.same _ (.same _ (.same _ (.same _ (.same _ (.same _ (.same _ (.box _ _ (subs_cons (sub_refl _) (subs_cons (sub_nil 5 1) (subs_cons (sub_refl _) (subs_cons (sub_refl _) (subs_cons (sub_refl _) (subs_cons (sub_refl _) (subs_cons (sub_refl _) (subs_nil)))))))) rfl (.same _ .nil)))))))))))) ?_
           exact hl54 _ (Option.some.inj h).symm
       ·intro u38 h hl39 hr40
        refine cond_some h (fun hg15_2 h => ?_) (fun hg15_2 h => ?_)
        ·refine yx hn 3 ?_
         refine yd hg15_2 11 ?_
         refine ye [3,4,5,9,10,11,13,14,16,17,156] ?_
         exact hl39 _ (Option.some.inj h).symm
        ·obtain ⟨v35, hv35, h⟩ := bind_some h
         refine cond_some h (fun hg15_8 h => ?_) (fun hg15_8 h => ?_)
         ·refine yx hn 3 ?_
          refine yd hg15_2 1 ?_
          refine yk [22] [] ?_
          refine yt (147, .agg [.v (.int .i64 v34.1.Number), .fl (.own 5) 1 (List.map (Value.int .u8) v34.1.Data), .v (.bool v34.1.Ready), .v (.int .i64 v34.1.Base), .v (.int .i64 v34.1.Next), .v (.int .i64 v34.1.Wait), .v (.bool v34.1.Over)]) 0 ⟨op_loadA_take _ _ _ _ underlying24 rfl sz24 rfl rfl⟩ ?_
          refine ys 3 ⟨lk call20 (ok_wherrykeep_Send _ _ _ hv35)⟩ ?_
          refine yd hg15_8 5 ?_
          refine ye [3,4,5,9,10,11,13,14,16,17,156] ?_
          exact hl39 _ (Option.some.inj h).symm
         ·obtain ⟨v36, hv36, h⟩ := bind_some h
          refine yx hn 3 ?_
          refine yd hg15_2 1 ?_
          refine yk [22] [] ?_
          refine yt (147, .agg [.v (.int .i64 v34.1.Number), .fl (.own 5) 1 (List.map (Value.int .u8) v34.1.Data), .v (.bool v34.1.Ready), .v (.int .i64 v34.1.Base), .v (.int .i64 v34.1.Next), .v (.int .i64 v34.1.Wait), .v (.bool v34.1.Over)]) 0 ⟨op_loadA_take _ _ _ _ underlying24 rfl sz24 rfl rfl⟩ ?_
          refine ys 3 ⟨lk call20 (ok_wherrykeep_Send _ _ _ hv35)⟩ ?_
          refine yd hg15_8 0 ?_
          refine yS (.same (.slot 14)) 0 ⟨op_move_name _ _ _ rfl⟩ ?_
          refine ym 0 ?_
          refine yS (.v (.bool v36)) 2 ⟨op_callOR _ _ 14 23 (pre := []) (x := .tmp 152) (post := [.tmp 153]) _ _ rfl call23 rfl rfl (by repeat first | exact List.Mem.head _ | apply List.Mem.tail) (oe_ais oe26_i _) rfl (ok_wherrykeep_Frames v10.2.1 v34.2 _ hv36) rfl rfl⟩ ?_
          refine ye [3,4,5,9,10,11,13,14,16,17,156] ?_
          exact hl39 _ (Option.some.inj h).symm
    ·intro u22 h hl23 hr24
     obtain ⟨v14, hv14, h⟩ := bind_some h
     obtain ⟨v15, hv15, h⟩ := bind_some h
     refine cond_some h (fun hg10_5 h => ?_) (fun hg10_5 h => ?_)
     ·refine wb [[9]] ?_
      refine wN [73,9] ?_
      refine wo [[74],[12]] ⟨lk call17 (ok_sender_Check _ _ hv14)⟩ ?_
      refine wN [75,76] ?_
      refine wS (.v (.bool ((!((v14 == 0) == v9))))) [[77]] ⟨op_bne _ _ _ _ underlying4 rfl rfl⟩ ?_
      refine wd hg10_5 [[78],[78],[78],[78],[78],[78],[84],[85],[85],[87],[87],[87],[90],[90],[90],[90],[87],[85],[85],[97],[98],[98],[98],[101],[101],[101],[104],[104],[104],[104],[101],[98],[98]] ?_
      refine we hn [3,4,5,9,10,11,12,13,14,15,16,17,111] ?_
      exact hl23 _ (Option.some.inj h).symm
     ·obtain ⟨v16, hv16, h⟩ := bind_some h
      obtain ⟨v17, hv17, h⟩ := bind_some h
      refine cond_some h (fun hg10_12 h => ?_) (fun hg10_12 h => ?_)
      ·refine wb [[9]] ?_
       refine wN [73,9] ?_
       refine wo [[74],[12]] ⟨lk call17 (ok_sender_Check _ _ hv14)⟩ ?_
       refine wN [75,76] ?_
       refine wS (.v (.bool ((!((v14 == 0) == v9))))) [[77]] ⟨op_bne _ _ _ _ underlying4 rfl rfl⟩ ?_
       refine wd hg10_5 [[78,9]] ?_
       refine wN [78,79,9] ?_
       refine wo [[78,4]] ⟨lk call18 (ok_sender_Pieces _ _ hv16)⟩ ?_
       refine wN [78,81] ?_
       refine wo [[78,80,82],[78,83],[84]] ⟨lk call19 (ok_wherryref18_Pieces _ _ hv17)⟩ ?_
       refine wd hg10_12 [[85],[85],[87],[87],[87],[90],[90],[90],[90],[87],[85],[85],[97],[98],[98],[98],[101],[101],[101],[104],[104],[104],[104],[101],[98],[98]] ?_
       refine we hn [3,4,5,9,10,11,12,13,14,15,16,17,111] ?_
       exact hl23 _ (Option.some.inj h).symm
      ·refine cond_some h (fun hg10_14 h => ?_) (fun hg10_14 h => ?_)
       ·refine cond_some h (fun hg10_17 h => ?_) (fun hg10_17 h => ?_)
        ·refine wb [[9]] ?_
         refine wN [73,9] ?_
         refine wo [[74],[12]] ⟨lk call17 (ok_sender_Check _ _ hv14)⟩ ?_
         refine wN [75,76] ?_
         refine wS (.v (.bool ((!((v14 == 0) == v9))))) [[77]] ⟨op_bne _ _ _ _ underlying4 rfl rfl⟩ ?_
         refine wd hg10_5 [[78,9]] ?_
         refine wN [78,79,9] ?_
         refine wo [[78,4]] ⟨lk call18 (ok_sender_Pieces _ _ hv16)⟩ ?_
         refine wN [78,81] ?_
         refine wo [[78,80,82],[78,83],[84]] ⟨lk call19 (ok_wherryref18_Pieces _ _ hv17)⟩ ?_
         refine wd hg10_12 [[85,21],[85,86]] ?_
         refine wd hg10_14 [[87,19],[87,88],[87,89]] ?_
         refine wd hg10_17 [[90],[90],[90],[90],[87,90],[85,87,95],[85,96],[97],[98],[98],[98],[101],[101],[101],[104],[104],[104],[104],[101],[98],[98]] ?_
         refine we hn [3,4,5,9,10,11,12,13,14,15,16,17,111] ?_
         exact hl23 _ (Option.some.inj h).symm
        ·obtain ⟨v18, hv18, h⟩ := bind_some h
         refine cond_some h (fun hg10_25 h => ?_) (fun hg10_25 h => ?_)
         ·refine wb [[9]] ?_
          refine wN [73,9] ?_
          refine wo [[74],[12]] ⟨lk call17 (ok_sender_Check _ _ hv14)⟩ ?_
          refine wN [75,76] ?_
          refine wS (.v (.bool ((!((v14 == 0) == v9))))) [[77]] ⟨op_bne _ _ _ _ underlying4 rfl rfl⟩ ?_
          refine wd hg10_5 [[78,9]] ?_
          refine wN [78,79,9] ?_
          refine wo [[78,4]] ⟨lk call18 (ok_sender_Pieces _ _ hv16)⟩ ?_
          refine wN [78,81] ?_
          refine wo [[78,80,82],[78,83],[84]] ⟨lk call19 (ok_wherryref18_Pieces _ _ hv17)⟩ ?_
          refine wd hg10_12 [[85,21],[85,86]] ?_
          refine wd hg10_14 [[87,19],[87,88],[87,89]] ?_
          refine wd hg10_17 [[90,18],[90,20]] ?_
          refine wN [90,91,18,92] ?_
          refine wo [[90,93],[87,90,94],[85,87,95],[85,96],[97]] ⟨lk call20 (ok_wherrykeep_Send _ _ _ hv18)⟩ ?_
          refine wd hg10_25 [[98],[98],[98],[101],[101],[101],[104],[104],[104],[104],[101],[98],[98]] ?_
          refine we hn [3,4,5,9,10,11,12,13,14,15,16,17,111] ?_
          exact hl23 _ (Option.some.inj h).symm
         ·refine cond_some h (fun hg10_28 h => ?_) (fun hg10_28 h => ?_)
          ·refine cond_some h (fun hg10_31 h => ?_) (fun hg10_31 h => ?_)
           ·refine wb [[9]] ?_
            refine wN [73,9] ?_
            refine wo [[74],[12]] ⟨lk call17 (ok_sender_Check _ _ hv14)⟩ ?_
            refine wN [75,76] ?_
            refine wS (.v (.bool ((!((v14 == 0) == v9))))) [[77]] ⟨op_bne _ _ _ _ underlying4 rfl rfl⟩ ?_
            refine wd hg10_5 [[78,9]] ?_
            refine wN [78,79,9] ?_
            refine wo [[78,4]] ⟨lk call18 (ok_sender_Pieces _ _ hv16)⟩ ?_
            refine wN [78,81] ?_
            refine wo [[78,80,82],[78,83],[84]] ⟨lk call19 (ok_wherryref18_Pieces _ _ hv17)⟩ ?_
            refine wd hg10_12 [[85,21],[85,86]] ?_
            refine wd hg10_14 [[87,19],[87,88],[87,89]] ?_
            refine wd hg10_17 [[90,18],[90,20]] ?_
            refine wN [90,91,18,92] ?_
            refine wo [[90,93],[87,90,94],[85,87,95],[85,96],[97]] ⟨lk call20 (ok_wherrykeep_Send _ _ _ hv18)⟩ ?_
            refine wd hg10_25 [[98,21],[98,99],[98,100]] ?_
            refine wd hg10_28 [[101,19],[101,102],[101,103]] ?_
            refine wd hg10_31 [[104],[104],[104],[104],[101,104],[98,101,109],[98,110]] ?_
            refine we hn [3,4,5,9,10,11,12,13,14,15,16,17,111] ?_
            exact hl23 _ (Option.some.inj h).symm
           ·obtain ⟨v19, hv19, h⟩ := bind_some h
            refine wb [[9]] ?_
            refine wN [73,9] ?_
            refine wo [[74],[12]] ⟨lk call17 (ok_sender_Check _ _ hv14)⟩ ?_
            refine wN [75,76] ?_
            refine wS (.v (.bool ((!((v14 == 0) == v9))))) [[77]] ⟨op_bne _ _ _ _ underlying4 rfl rfl⟩ ?_
            refine wd hg10_5 [[78,9]] ?_
            refine wN [78,79,9] ?_
            refine wo [[78,4]] ⟨lk call18 (ok_sender_Pieces _ _ hv16)⟩ ?_
            refine wN [78,81] ?_
            refine wo [[78,80,82],[78,83],[84]] ⟨lk call19 (ok_wherryref18_Pieces _ _ hv17)⟩ ?_
            refine wd hg10_12 [[85,21],[85,86]] ?_
            refine wd hg10_14 [[87,19],[87,88],[87,89]] ?_
            refine wd hg10_17 [[90,18],[90,20]] ?_
            refine wN [90,91,18,92] ?_
            refine wo [[90,93],[87,90,94],[85,87,95],[85,96],[97]] ⟨lk call20 (ok_wherrykeep_Send _ _ _ hv18)⟩ ?_
            refine wd hg10_25 [[98,21],[98,99],[98,100]] ?_
            refine wd hg10_28 [[101,19],[101,102],[101,103]] ?_
            refine wd hg10_31 [[104,18]] ?_
            refine wN [104] ?_
            refine wS (.agg [.v (.int .i64 0), .v (.slice none 0 0), .v (.bool false), .v (.int .i64 0), .v (.int .i64 0), .v (.int .i64 0), .v (.bool false)]) [] ⟨op_build _ _ _ _ [1, 1, 1, 1, 1, 1, 1] _ _ underlying24 zr24 (fs24 _ underlying24) Src.nil rfl rfl rfl⟩ ?_
            refine wN [104,105,18,106] ?_
            refine wS (.v (.bool v19)) [[104,107],[101,104,108],[98,101,109],[98,110]] ⟨op_call _ _ 20 _ _ rfl call20 rfl ((ok_wherrykeep_Send v12.1 (T_Send.mk 0 [] false 0 0 0 false) _ hv19).args (subs_cons (sub_refl _) (subs_cons (sub_agg (subs_cons (sub_refl _) (subs_cons (sub_nil_shr 1) (subs_cons (sub_refl _) (subs_cons (sub_refl _) (subs_cons (sub_refl _) (subs_cons (sub_refl _) (subs_cons (sub_refl _) (subs_nil))))))))) (subs_nil)))) rfl rfl⟩ ?_
            refine we hn [3,4,5,9,10,11,12,13,14,15,16,17,111] ?_
            exact hl23 _ (Option.some.inj h).symm
          ·refine wb [[9]] ?_
           refine wN [73,9] ?_
           refine wo [[74],[12]] ⟨lk call17 (ok_sender_Check _ _ hv14)⟩ ?_
           refine wN [75,76] ?_
           refine wS (.v (.bool ((!((v14 == 0) == v9))))) [[77]] ⟨op_bne _ _ _ _ underlying4 rfl rfl⟩ ?_
           refine wd hg10_5 [[78,9]] ?_
           refine wN [78,79,9] ?_
           refine wo [[78,4]] ⟨lk call18 (ok_sender_Pieces _ _ hv16)⟩ ?_
           refine wN [78,81] ?_
           refine wo [[78,80,82],[78,83],[84]] ⟨lk call19 (ok_wherryref18_Pieces _ _ hv17)⟩ ?_
           refine wd hg10_12 [[85,21],[85,86]] ?_
           refine wd hg10_14 [[87,19],[87,88],[87,89]] ?_
           refine wd hg10_17 [[90,18],[90,20]] ?_
           refine wN [90,91,18,92] ?_
           refine wo [[90,93],[87,90,94],[85,87,95],[85,96],[97]] ⟨lk call20 (ok_wherrykeep_Send _ _ _ hv18)⟩ ?_
           refine wd hg10_25 [[98,21],[98,99],[98,100]] ?_
           refine wd hg10_28 [[101],[101],[101],[104],[104],[104],[104],[101],[98,101],[98,110]] ?_
           refine we hn [3,4,5,9,10,11,12,13,14,15,16,17,111] ?_
           exact hl23 _ (Option.some.inj h).symm
       ·refine cond_some h (fun hg10_28 h => ?_) (fun hg10_28 h => ?_)
        ·refine cond_some h (fun hg10_31 h => ?_) (fun hg10_31 h => ?_)
         ·refine wb [[9]] ?_
          refine wN [73,9] ?_
          refine wo [[74],[12]] ⟨lk call17 (ok_sender_Check _ _ hv14)⟩ ?_
          refine wN [75,76] ?_
          refine wS (.v (.bool ((!((v14 == 0) == v9))))) [[77]] ⟨op_bne _ _ _ _ underlying4 rfl rfl⟩ ?_
          refine wd hg10_5 [[78,9]] ?_
          refine wN [78,79,9] ?_
          refine wo [[78,4]] ⟨lk call18 (ok_sender_Pieces _ _ hv16)⟩ ?_
          refine wN [78,81] ?_
          refine wo [[78,80,82],[78,83],[84]] ⟨lk call19 (ok_wherryref18_Pieces _ _ hv17)⟩ ?_
          refine wd hg10_12 [[85,21],[85,86]] ?_
          refine wd hg10_14 [[87],[87],[87],[90],[90],[90],[90],[87],[85,87],[85,96],[97],[98,21],[98,99],[98,100]] ?_
          refine wd hg10_28 [[101,19],[101,102],[101,103]] ?_
          refine wd hg10_31 [[104],[104],[104],[104],[101,104],[98,101,109],[98,110]] ?_
          refine we hn [3,4,5,9,10,11,12,13,14,15,16,17,111] ?_
          exact hl23 _ (Option.some.inj h).symm
         ·obtain ⟨v20, hv20, h⟩ := bind_some h
          refine wb [[9]] ?_
          refine wN [73,9] ?_
          refine wo [[74],[12]] ⟨lk call17 (ok_sender_Check _ _ hv14)⟩ ?_
          refine wN [75,76] ?_
          refine wS (.v (.bool ((!((v14 == 0) == v9))))) [[77]] ⟨op_bne _ _ _ _ underlying4 rfl rfl⟩ ?_
          refine wd hg10_5 [[78,9]] ?_
          refine wN [78,79,9] ?_
          refine wo [[78,4]] ⟨lk call18 (ok_sender_Pieces _ _ hv16)⟩ ?_
          refine wN [78,81] ?_
          refine wo [[78,80,82],[78,83],[84]] ⟨lk call19 (ok_wherryref18_Pieces _ _ hv17)⟩ ?_
          refine wd hg10_12 [[85,21],[85,86]] ?_
          refine wd hg10_14 [[87],[87],[87],[90],[90],[90],[90],[87],[85,87],[85,96],[97],[98,21],[98,99],[98,100]] ?_
          refine wd hg10_28 [[101,19],[101,102],[101,103]] ?_
          refine wd hg10_31 [] ?_
          refine wK [18] [104] ?_
          refine wt [(105, .agg [.v (.int .i64 v12.1.Number), .fl (.own 5) 1 (List.map (Value.int .u8) v12.1.Data), .v (.bool v12.1.Ready), .v (.int .i64 v12.1.Base), .v (.int .i64 v12.1.Next), .v (.int .i64 v12.1.Wait), .v (.bool v12.1.Over)])] [] ⟨op_loadA_take _ _ _ _ underlying24 rfl sz24 rfl rfl⟩ ?_
          refine wN [104] ?_
          refine wS (.agg [.v (.int .i64 0), .v (.slice none 0 0), .v (.bool false), .v (.int .i64 0), .v (.int .i64 0), .v (.int .i64 0), .v (.bool false)]) [] ⟨op_build _ _ _ _ [1, 1, 1, 1, 1, 1, 1] _ _ underlying24 zr24 (fs24 _ underlying24) Src.nil rfl rfl rfl⟩ ?_
          refine wN [104,105,106] ?_
          refine wS (.v (.bool v20)) [[104,107],[101,104,108],[98,101,109],[98,110]] ⟨op_call _ _ 20 _ _ rfl call20 rfl ((ok_wherrykeep_Send v12.1 (T_Send.mk 0 [] false 0 0 0 false) _ hv20).args (subs_cons (sub_refl _) (subs_cons (sub_agg (subs_cons (sub_refl _) (subs_cons (sub_nil_shr 1) (subs_cons (sub_refl _) (subs_cons (sub_refl _) (subs_cons (sub_refl _) (subs_cons (sub_refl _) (subs_cons (sub_refl _) (subs_nil))))))))) (subs_nil)))) rfl rfl⟩ ?_
          refine we hn [3,4,5,9,10,11,12,13,14,15,16,17,111] ?_
          exact hl23 _ (Option.some.inj h).symm
        ·refine wb [[9]] ?_
         refine wN [73,9] ?_
         refine wo [[74],[12]] ⟨lk call17 (ok_sender_Check _ _ hv14)⟩ ?_
         refine wN [75,76] ?_
         refine wS (.v (.bool ((!((v14 == 0) == v9))))) [[77]] ⟨op_bne _ _ _ _ underlying4 rfl rfl⟩ ?_
         refine wd hg10_5 [[78,9]] ?_
         refine wN [78,79,9] ?_
         refine wo [[78,4]] ⟨lk call18 (ok_sender_Pieces _ _ hv16)⟩ ?_
         refine wN [78,81] ?_
         refine wo [[78,80,82],[78,83],[84]] ⟨lk call19 (ok_wherryref18_Pieces _ _ hv17)⟩ ?_
         refine wd hg10_12 [[85,21],[85,86]] ?_
         refine wd hg10_14 [[87],[87],[87],[90],[90],[90],[90],[87],[85,87],[85,96],[97],[98,21],[98,99],[98,100]] ?_
         refine wd hg10_28 [[101],[101],[101],[104],[104],[104],[104],[101],[98,101],[98,110]] ?_
         refine we hn [3,4,5,9,10,11,12,13,14,15,16,17,111] ?_
         exact hl23 _ (Option.some.inj h).symm
  ·intro u2 h hl3 hr4
   refine cond_some h (fun hg1_4 h => ?_) (fun hg1_4 h => ?_)
   ·refine yx hn 5 ?_
    refine yd hg1_4 10 ?_
    refine ye [2,3,4,5,41] ?_
    exact hl3 _ (Option.some.inj h).symm
   ·refine cond_some h (fun hg1_9 h => ?_) (fun hg1_9 h => ?_)
    ·refine yx hn 5 ?_
     refine yd hg1_4 5 ?_
     refine yd hg1_9 5 ?_
     refine ye [2,3,4,5,41] ?_
     exact hl3 _ (Option.some.inj h).symm
    ·refine yx hn 5 ?_
     refine yd hg1_4 5 ?_
     refine yd hg1_9 5 ?_
     refine ye [2,3,4,5,41] ?_
     exact hl3 _ (Option.some.inj h).symm

end Go.Proofs.Ytdligpdfcfbgpaa
