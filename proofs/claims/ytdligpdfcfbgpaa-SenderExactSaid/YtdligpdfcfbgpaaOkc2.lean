/-
  The model's runs are what is told in Lean.
-/
import Derived.Test.YtdligpdfcfbgpaaProg
import Derived.KernelRfl
import Derived.Test.YtdligpdfcfbgpaaBE
import Derived.Test.YtdligpdfcfbgpaaC1
import Derived.Test.YtdligpdfcfbgpaaOkc1
set_option linter.unusedVariables false
set_option linter.unusedSimpArgs false
set_option maxHeartbeats 1000000
namespace Go.Proofs.Ytdligpdfcfbgpaa
open Go.Abs Go.Abs.Sh Try
theorem ok_sender_ready (s : T_Send) (offset : Int) (r : (Bool × T_Send)) (h : Sh.sender_ready s offset = some r) : FnP Try.prog 37 [.box 24 [.v (.int .i64 s.Number), .fl (.own 5) 1 (List.map (Value.int .u8) s.Data), .v (.bool s.Ready), .v (.int .i64 s.Base), .v (.int .i64 s.Next), .v (.int .i64 s.Wait), .v (.bool s.Over)], .v (.int .i64 offset)] [.box 24 [.v (.int .i64 r.2.Number), .fl (.own 5) 1 (List.map (Value.int .u8) r.2.Data), .v (.bool r.2.Ready), .v (.int .i64 r.2.Base), .v (.int .i64 r.2.Next), .v (.int .i64 r.2.Wait), .v (.bool r.2.Over)]] (.v (.bool r.1)) := by
  unfold Sh.sender_ready at h
  refine yP 51 func37 fun args0 hargs0 g0 hn hio => ?_
  refine yyy hn 1 [0,1,0] ?_
  refine yyy hn 8 [0,1,5,0] ?_
  refine ht_seq ?_
  refine ht_seq ?_
  refine ht_joinS h (fun (s2 : Bool) => [(0, .box 24 [.v (.int .i64 s.Number), .fl (.own 5) 1 (List.map (Value.int .u8) s.Data), .v (.bool s.Ready), .v (.int .i64 s.Base), .v (.int .i64 s.Next), .v (.int .i64 s.Wait), .v (.bool s.Over)]), (1, .v (.int .i64 offset)), (5, .v (.bool ((offset == (s.Data.length : Int))))), (29, .v (.bool s2)), (0, .v (List.getD args0 0 undef))]) ?_ ?_
  ·rintro s2 h
   refine pt_then ?_
   refine ht_cond _ rfl (fun hb6 => ?_) (fun hb6 => ?_)
   ·have h := cond_t hb6 h
    refine yyy hn 1 [0,4,0] ?_
    refine ht_ret ?_
    refine pt_pick [1, 0, 2] (by kernel_rfl) (es' := [(_,_),(_,_),(_,_)]) rfl ?_
    refine pt_r_then ?_
    obtain rfl := Option.some.inj h
    exact pt_retP (es := [(4, .v (.bool false))]) (posts := [.box 24 [.v (.int .i64 s.Number), .fl (.own 5) 1 (List.map (Value.int .u8) s.Data), .v (.bool s.Ready), .v (.int .i64 s.Base), .v (.int .i64 s.Next), .v (.int .i64 s.Wait), .v (.bool s.Over)]]) hio rfl rfl (.tmp _ _ .nil) rfl rfl hargs0 rfl
   ·have h := cond_f hb6 h
    refine ht_skip ?_
    refine pt_then (ht_seq ?_)
    obtain ⟨v7, hv7, h⟩ := bind_some h
    refine yx hn 1 ?_
    refine ys 1 ⟨lB (quo_ok hv7)⟩ ?_
    refine yee [0,5,6,0] ?_
    refine ht_seq ?_
    refine ht_joinS h (fun (s10 : Int) => [(0, .box 24 [.v (.int .i64 s.Number), .fl (.own 5) 1 (List.map (Value.int .u8) s.Data), .v (.bool s.Ready), .v (.int .i64 s.Base), .v (.int .i64 s.Next), .v (.int .i64 s.Wait), .v (.bool s.Over)]), (6, .v (.int .i64 s10)), (0, .v (List.getD args0 0 undef))]) ?_ ?_
    ·rintro s10 h
     refine pt_then ?_
     refine yyy hn 18 [0,0] ?_
     refine yyy hn 1 [0,4,0] ?_
     refine ht_ret ?_
     refine pt_pick [1, 0, 2] (by kernel_rfl) (es' := [(_,_),(_,_),(_,_)]) rfl ?_
     obtain rfl := Option.some.inj h
     exact pt_retP (es := [(4, .v (.bool true))]) (posts := [.box 24 [.v (.int .i64 s.Number), .fl (.own 5) 1 (List.map (Value.int .u8) s.Data), .v (.bool true), .v (.int .i64 s10), .v (.int .i64 s10), .v (.int .i64 0), .v (.bool s.Over)]]) hio rfl rfl (.tmp _ _ .nil) rfl rfl hargs0 rfl
    ·intro u11 h hl12 hr13
     refine yyy hn 1 [0,6,32,0] ?_
     refine ht_cond _ rfl (fun hb14 => ?_) (fun hb14 => ?_)
     ·have h := cond_t hb14 h
      obtain ⟨v9, hv9, h⟩ := bind_some h
      refine yx hn 3 ?_
      refine ys 0 ⟨lk call33 (ok_sender_pieces _ _ hv9)⟩ ?_
      refine yw [6] 1 ?_
      refine ye [0,6,0] ?_
      exact hl12 _ (Option.some.inj h).symm
     ·have h := cond_f hb14 h
      refine ht_skip ?_
      refine pt_pick [0, 1, 3] (by kernel_rfl) (es' := [(_,_),(_,_),(_,_)]) rfl ?_
      exact hl12 _ (Option.some.inj h).symm
  ·intro u3 h hl4 hr5
   refine cond_some h (fun hg2_2 h => ?_) (fun hg2_2 h => ?_)
   ·refine cond_some h (fun hg2_10 h => ?_) (fun hg2_10 h => ?_)
    ·refine yx hn 3 ?_
     refine yd hg2_2 8 ?_
     refine yd hg2_10 5 ?_
     refine ye [0,1,5,29,0] ?_
     exact hl4 _ (Option.some.inj h).symm
    ·obtain ⟨v1, hv1, h⟩ := bind_some h
     refine yx hn 3 ?_
     refine yd hg2_2 8 ?_
     refine yd hg2_10 1 ?_
     refine ys 3 ⟨lB (rem_ok hv1)⟩ ?_
     refine ye [0,1,5,29,0] ?_
     exact hl4 _ (Option.some.inj h).symm
   ·refine yx hn 3 ?_
    refine yd hg2_2 13 ?_
    refine ye [0,1,5,29,0] ?_
    exact hl4 _ (Option.some.inj h).symm
theorem ok_sender_ack (s : T_Send) (seq : Int) (r : (Bool × T_Send)) (h : Sh.sender_ack s seq = some r) : FnP Try.prog 38 [.box 24 [.v (.int .i64 s.Number), .fl (.own 5) 1 (List.map (Value.int .u8) s.Data), .v (.bool s.Ready), .v (.int .i64 s.Base), .v (.int .i64 s.Next), .v (.int .i64 s.Wait), .v (.bool s.Over)], .v (.int .i64 seq)] [.box 24 [.v (.int .i64 r.2.Number), .fl (.own 5) 1 (List.map (Value.int .u8) r.2.Data), .v (.bool r.2.Ready), .v (.int .i64 r.2.Base), .v (.int .i64 r.2.Next), .v (.int .i64 r.2.Wait), .v (.bool r.2.Over)]] (.v (.bool r.1)) := by
  unfold Sh.sender_ack at h
  refine yP 35 func38 fun args0 hargs0 g0 hn hio => ?_
  refine yyy hn 1 [0,1,0] ?_
  refine ht_seq ?_
  refine yyy hn 5 [0,1,10,0] ?_
  refine ht_cond _ rfl (fun hb1 => ?_) (fun hb1 => ?_)
  ·have h := cond_t hb1 h
   refine yyy hn 1 [0,4,0] ?_
   refine ht_ret ?_
   refine pt_pick [1, 0, 2] (by kernel_rfl) (es' := [(_,_),(_,_),(_,_)]) rfl ?_
   refine pt_r_then ?_
   obtain rfl := Option.some.inj h
   exact pt_retP (es := [(4, .v (.bool false))]) (posts := [.box 24 [.v (.int .i64 s.Number), .fl (.own 5) 1 (List.map (Value.int .u8) s.Data), .v (.bool s.Ready), .v (.int .i64 s.Base), .v (.int .i64 s.Next), .v (.int .i64 s.Wait), .v (.bool s.Over)]]) hio rfl rfl (.tmp _ _ .nil) rfl rfl hargs0 rfl
  ·have h := cond_f hb1 h
   refine ht_skip ?_
   refine pt_then (ht_seq ?_)
   refine ht_seq ?_
   obtain ⟨v2, hv2, h⟩ := bind_some h
   refine yx hn 4 ?_
   refine ys 1 ⟨lb hv2⟩ ?_
   refine yee [0,1,5,0] ?_
   refine ht_loopS h (fun (s10 : Int) => [(0, .box 24 [.v (.int .i64 s.Number), .fl (.own 5) 1 (List.map (Value.int .u8) s.Data), .v (.bool s.Ready), .v (.int .i64 s.Base), .v (.int .i64 s.Next), .v (.int .i64 s.Wait), .v (.bool s.Over)]), (1, .v (.int .i64 seq)), (5, .v (.int .i64 s10)), (0, .v (List.getD args0 0 undef))]) (fun (() : Unit) => [(0, .box 24 [.v (.int .i64 s.Number), .fl (.own 5) 1 (List.map (Value.int .u8) s.Data), .v (.bool s.Ready), .v (.int .i64 s.Base), .v (.int .i64 s.Next), .v (.int .i64 s.Wait), .v (.bool s.Over)]), (0, .v (List.getD args0 0 undef))]) ?_ ?_
   ·rintro ⟨⟩ h
    refine pt_then ?_
    refine yyy hn 1 [0,4,0] ?_
    refine ht_ret ?_
    refine pt_pick [1, 0, 2] (by kernel_rfl) (es' := [(_,_),(_,_),(_,_)]) rfl ?_
    obtain rfl := Option.some.inj h
    exact pt_retP (es := [(4, .v (.bool false))]) (posts := [.box 24 [.v (.int .i64 s.Number), .fl (.own 5) 1 (List.map (Value.int .u8) s.Data), .v (.bool s.Ready), .v (.int .i64 s.Base), .v (.int .i64 s.Next), .v (.int .i64 s.Wait), .v (.bool s.Over)]]) hio rfl rfl (.tmp _ _ .nil) rfl rfl hargs0 rfl
   ·rintro u13 hl14 hr15 s10 rr18 h ho16
    refine ht_seq ?_
    refine yyy hn 6 [0,1,5,21,0] ?_
    refine ht_cond _ rfl (fun hb19 => ?_) (fun hb19 => ?_)
    ·have h := cond_t hb19 h
     refine ht_skip ?_
     refine pt_then (ht_seq ?_)
     refine ht_block ?_
     refine ht_seq ?_
     obtain ⟨v4, hv4, h⟩ := bind_some h
     refine yx hn 1 ?_
     refine ys 2 ⟨lB (rem_ok hv4)⟩ ?_
     refine yee [0,1,5,27,0] ?_
     refine ht_cond _ rfl (fun hb20 => ?_) (fun hb20 => ?_)
     ·have h := cond_t hb20 h
      refine yyy hn 9 [0,0] ?_
      refine yyy hn 1 [0,4,0] ?_
      refine ht_ret ?_
      refine pt_pick [1, 0, 2] (by kernel_rfl) (es' := [(_,_),(_,_),(_,_)]) rfl ?_
      refine pt_r_in ?_
      refine pt_r_then ?_
      refine pt_r_then ?_
      refine pt_r_in ?_
      refine pt_r_then ?_
      have h := hr15 _ (ho16 _ (Option.some.inj h).symm).symm
      obtain rfl := Option.some.inj h
      exact pt_retP (es := [(4, .v (.bool true))]) (posts := [.box 24 [.v (.int .i64 s.Number), .fl (.own 5) 1 (List.map (Value.int .u8) s.Data), .v (.bool s.Ready), .v (.int .i64 s10), .v (.int .i64 s.Next), .v (.int .i64 3), .v (.bool s.Over)]]) hio rfl rfl (.tmp _ _ .nil) rfl rfl hargs0 rfl
     ·have h := cond_f hb20 h
      refine ht_skip ?_
      refine pt_inb ?_
      refine pt_then ?_
      obtain ⟨v6, hv6, h⟩ := bind_some h
      refine yx hn 1 ?_
      refine ys 0 ⟨lb hv6⟩ ?_
      refine yw [5] 1 ?_
      refine ye [0,1,5,0] ?_
      exact pt_next _ (Option.some.inj h).symm rfl
    ·have h := cond_f hb19 h
     refine ht_exit ?_
     refine pt_x_then ?_
     refine pt_x_then ?_
     refine pt_x_in ?_
     refine pt_pick [0, 4] (by kernel_rfl) (es' := [(_,_),(_,_)]) rfl ?_
     exact hl14 _ (ho16 _ (Option.some.inj h).symm).symm
theorem ok_sender_Hear (s : T_Send) (f : T_Frame) (r : (T_Send × Int)) (h : Sh.sender_Hear s f = some r) : FnOK Try.prog 15 [.agg [.v (.int .i64 s.Number), .fl .shr 1 (List.map (Value.int .u8) s.Data), .v (.bool s.Ready), .v (.int .i64 s.Base), .v (.int .i64 s.Next), .v (.int .i64 s.Wait), .v (.bool s.Over)], .agg [.v (.int .i64 f.Kind), .v (.int .i64 f.Number), .v (.int .i64 f.Offset), .v (.int .i64 f.Seq), .fl .shr 1 (List.map (Value.int .u8) f.Data)]] (.tup [.agg [.v (.int .i64 r.1.Number), .fl (.own 5) 1 (List.map (Value.int .u8) r.1.Data), .v (.bool r.1.Ready), .v (.int .i64 r.1.Base), .v (.int .i64 r.1.Next), .v (.int .i64 r.1.Wait), .v (.bool r.1.Over)], .v (.int .i64 r.2)]) := by
  unfold Sh.sender_Hear at h
  refine yO 52 func15 fun g0 hn hio => ?_
  refine yxx hn 2 ?_
  refine yS (.box 24 [.v (.int .i64 0), .v (.slice none 0 0), .v (.bool false), .v (.int .i64 0), .v (.int .i64 0), .v (.int .i64 0), .v (.bool false)]) 1 ⟨oA (op_alloc _ _ zr24)⟩ ?_
  refine yee [2,3,4] ?_
  refine ht_seq ?_
  refine ht_seq ?_
  obtain ⟨v1, hv1, h⟩ := bind_some h
  refine yx hn 1 ?_
  refine ys 1 ⟨lk call17 (ok_sender_Check _ _ hv1)⟩ ?_
  refine yee [2,3,4,6] ?_
  refine yyy hn 2 [2,3,4,6,12] ?_
  refine ht_cond _ rfl (fun hb2 => ?_) (fun hb2 => ?_)
  ·have h := cond_t hb2 h
   refine yxx hn 0 ?_
   refine yS (.agg [.v (.int .i64 0), .v (.slice none 0 0), .v (.bool false), .v (.int .i64 0), .v (.int .i64 0), .v (.int .i64 0), .v (.bool false)]) 1 ⟨op_build _ _ _ _ [1, 1, 1, 1, 1, 1, 1] _ _ underlying24 zr24 (fs24 _ underlying24) Src.nil rfl rfl rfl⟩ ?_
   refine yk [13,4] [] ?_
   refine yt (4, .box 24 [.v (.int .i64 0), .v (.slice none 0 0), .v (.bool false), .v (.int .i64 0), .v (.int .i64 0), .v (.int .i64 0), .v (.bool false)]) 1 ⟨op_store_self _ _ _ 13 4 7 sz24 rfl rfl rfl rfl rfl (.eq _ (.eq _ (.eq _ (.eq _ (.eq _ (.eq _ (.eq _ (.nil _)))))))) rfl⟩ ?_
   refine yee [4,5] ?_
   refine ht_ret ?_
   refine pt_sub (fs := [(4, .box 24 [.v (.int .i64 0), .fl (.own 5) 1 (List.map (Value.int .u8) []), .v (.bool false), .v (.int .i64 0), .v (.int .i64 0), .v (.int .i64 0), .v (.bool false)]), (5, .v (.int .i64 v1))]) (.box _ _ (subs_cons (sub_refl _) (subs_cons (sub_nil 5 1) (subs_cons (sub_refl _) (subs_cons (sub_refl _) (subs_cons (sub_refl _) (subs_cons (sub_refl _) (subs_cons (sub_refl _) (subs_nil)))))))) rfl (.same _ .nil)) ?_
   refine pt_r_then ?_
   obtain rfl := Option.some.inj h
   exact pt_ret hio rfl (.cellA _ _ _ _ underlying24 rfl sz24 (.tmp _ _ .nil)) rfl rfl
  ·have h := cond_f hb2 h
   refine ht_skip ?_
   refine pt_then (ht_seq ?_)
   refine ht_seq ?_
   obtain ⟨v3, hv3, h⟩ := bind_some h
   refine yx hn 1 ?_
   refine ys 1 ⟨lk call36 (ok_frame_Check _ _ hv3)⟩ ?_
   refine yee [2,3,4,7] ?_
   refine yyy hn 2 [2,3,4,7,18] ?_
   refine ht_cond _ rfl (fun hb4 => ?_) (fun hb4 => ?_)
   ·have h := cond_t hb4 h
    refine yxx hn 0 ?_
    refine yS (.agg [.v (.int .i64 0), .v (.slice none 0 0), .v (.bool false), .v (.int .i64 0), .v (.int .i64 0), .v (.int .i64 0), .v (.bool false)]) 1 ⟨op_build _ _ _ _ [1, 1, 1, 1, 1, 1, 1] _ _ underlying24 zr24 (fs24 _ underlying24) Src.nil rfl rfl rfl⟩ ?_
    refine yk [19,4] [] ?_
    refine yt (4, .box 24 [.v (.int .i64 0), .v (.slice none 0 0), .v (.bool false), .v (.int .i64 0), .v (.int .i64 0), .v (.int .i64 0), .v (.bool false)]) 1 ⟨op_store_self _ _ _ 19 4 7 sz24 rfl rfl rfl rfl rfl (.eq _ (.eq _ (.eq _ (.eq _ (.eq _ (.eq _ (.eq _ (.nil _)))))))) rfl⟩ ?_
    refine yee [4,5] ?_
    refine ht_ret ?_
    refine pt_sub (fs := [(4, .box 24 [.v (.int .i64 0), .fl (.own 5) 1 (List.map (Value.int .u8) []), .v (.bool false), .v (.int .i64 0), .v (.int .i64 0), .v (.int .i64 0), .v (.bool false)]), (5, .v (.int .i64 v3))]) (.box _ _ (subs_cons (sub_refl _) (subs_cons (sub_nil 5 1) (subs_cons (sub_refl _) (subs_cons (sub_refl _) (subs_cons (sub_refl _) (subs_cons (sub_refl _) (subs_cons (sub_refl _) (subs_nil)))))))) rfl (.same _ .nil)) ?_
    refine pt_r_then ?_
    obtain rfl := Option.some.inj h
    exact pt_ret hio rfl (.cellA _ _ _ _ underlying24 rfl sz24 (.tmp _ _ .nil)) rfl rfl
   ·have h := cond_f hb4 h
    refine ht_skip ?_
    refine pt_then (ht_seq ?_)
    refine ht_seq ?_
    refine ht_joinS h (fun (s5 : Bool) => [(2, .box 24 [.v (.int .i64 s.Number), .fl .shr 1 (List.map (Value.int .u8) s.Data), .v (.bool s.Ready), .v (.int .i64 s.Base), .v (.int .i64 s.Next), .v (.int .i64 s.Wait), .v (.bool s.Over)]), (3, .box 26 [.v (.int .i64 f.Kind), .v (.int .i64 f.Number), .v (.int .i64 f.Offset), .v (.int .i64 f.Seq), .fl .shr 1 (List.map (Value.int .u8) f.Data)]), (4, .box 24 [.v (.int .i64 0), .v (.slice none 0 0), .v (.bool false), .v (.int .i64 0), .v (.int .i64 0), .v (.int .i64 0), .v (.bool false)]), (29, .v (.bool s5))]) ?_ ?_
    ·rintro s5 h
     refine pt_then ?_
     refine ht_cond _ rfl (fun hb9 => ?_) (fun hb9 => ?_)
     ·have h := cond_t hb9 h
      refine yxx hn 0 ?_
      refine yS (.agg [.v (.int .i64 0), .v (.slice none 0 0), .v (.bool false), .v (.int .i64 0), .v (.int .i64 0), .v (.int .i64 0), .v (.bool false)]) 0 ⟨op_build _ _ _ _ [1, 1, 1, 1, 1, 1, 1] _ _ underlying24 zr24 (fs24 _ underlying24) Src.nil rfl rfl rfl⟩ ?_
      refine yk [30,4] [] ?_
      refine yt (4, .box 24 [.v (.int .i64 0), .v (.slice none 0 0), .v (.bool false), .v (.int .i64 0), .v (.int .i64 0), .v (.int .i64 0), .v (.bool false)]) 1 ⟨op_store_self _ _ _ 30 4 7 sz24 rfl rfl rfl rfl rfl (.eq _ (.eq _ (.eq _ (.eq _ (.eq _ (.eq _ (.eq _ (.nil _)))))))) rfl⟩ ?_
      refine yee [4,5] ?_
      refine ht_ret ?_
      refine pt_sub (fs := [(4, .box 24 [.v (.int .i64 0), .fl (.own 5) 1 (List.map (Value.int .u8) []), .v (.bool false), .v (.int .i64 0), .v (.int .i64 0), .v (.int .i64 0), .v (.bool false)]), (5, .v (.int .i64 11))]) (.box _ _ (subs_cons (sub_refl _) (subs_cons (sub_nil 5 1) (subs_cons (sub_refl _) (subs_cons (sub_refl _) (subs_cons (sub_refl _) (subs_cons (sub_refl _) (subs_cons (sub_refl _) (subs_nil)))))))) rfl (.same _ .nil)) ?_
      refine pt_r_then ?_
      obtain rfl := Option.some.inj h
      exact pt_ret hio rfl (.cellA _ _ _ _ underlying24 rfl sz24 (.tmp _ _ .nil)) rfl rfl
     ·have h := cond_f hb9 h
      refine ht_skip ?_
      refine pt_then (ht_seq ?_)
      obtain ⟨v10, hv10, h⟩ := bind_some h
      refine yx hn 1 ?_
      refine ys 0 ⟨lk call31 (ok_clone_Send _ _ hv10)⟩ ?_
      refine yk [32,2] [] ?_
      refine yt (2, .box 24 [.v (.int .i64 v10.Number), .fl (.own 5) 1 (List.map (Value.int .u8) v10.Data), .v (.bool v10.Ready), .v (.int .i64 v10.Base), .v (.int .i64 v10.Next), .v (.int .i64 v10.Wait), .v (.bool v10.Over)]) 0 ⟨op_store_take _ _ _ _ _ _ _ _ sz24 rfl rfl rfl (zl rfl) rfl rfl⟩ ?_
      refine yee [2,3,4] ?_
      refine yyy hn 1 [2,3,4,8] ?_
      refine ht_seq ?_
      refine ht_joinS h (fun ((s30, s31, s32, s33, s34, s35, s36, s37) : Int × (List Int) × Bool × Int × Int × Int × Bool × Bool) => [(2, .box 24 [.v (.int .i64 s30), .fl (.own 5) 1 (List.map (Value.int .u8) s31), .v (.bool s32), .v (.int .i64 s33), .v (.int .i64 s34), .v (.int .i64 s35), .v (.bool s36)]), (4, .box 24 [.v (.int .i64 0), .v (.slice none 0 0), .v (.bool false), .v (.int .i64 0), .v (.int .i64 0), .v (.int .i64 0), .v (.bool false)]), (8, .v (.bool s37))]) ?_ ?_
      ·rintro ⟨s30, s31, s32, s33, s34, s35, s36, s37⟩ h
       refine pt_then (ht_seq ?_)
       refine yyy hn 2 [2,4,49] ?_
       refine ht_cond _ rfl (fun hb58 => ?_) (fun hb58 => ?_)
       ·have h := cond_t hb58 h
        refine yxx hn 0 ?_
        refine yS (.agg [.v (.int .i64 0), .v (.slice none 0 0), .v (.bool false), .v (.int .i64 0), .v (.int .i64 0), .v (.int .i64 0), .v (.bool false)]) 0 ⟨op_build _ _ _ _ [1, 1, 1, 1, 1, 1, 1] _ _ underlying24 zr24 (fs24 _ underlying24) Src.nil rfl rfl rfl⟩ ?_
        refine yk [50,4] [] ?_
        refine yt (4, .box 24 [.v (.int .i64 0), .v (.slice none 0 0), .v (.bool false), .v (.int .i64 0), .v (.int .i64 0), .v (.int .i64 0), .v (.bool false)]) 1 ⟨op_store_self _ _ _ 50 4 7 sz24 rfl rfl rfl rfl rfl (.eq _ (.eq _ (.eq _ (.eq _ (.eq _ (.eq _ (.eq _ (.nil _)))))))) rfl⟩ ?_
        refine yee [4,5] ?_
        refine ht_ret ?_
        refine pt_sub (fs := [(4, .box 24 [.v (.int .i64 0), .fl (.own 5) 1 (List.map (Value.int .u8) []), .v (.bool false), .v (.int .i64 0), .v (.int .i64 0), .v (.int .i64 0), .v (.bool false)]), (5, .v (.int .i64 11))]) (.box _ _ (subs_cons (sub_refl _) (subs_cons (sub_nil 5 1) (subs_cons (sub_refl _) (subs_cons (sub_refl _) (subs_cons (sub_refl _) (subs_cons (sub_refl _) (subs_cons (sub_refl _) (subs_nil)))))))) rfl (.same _ .nil)) ?_
        refine pt_r_then ?_
        obtain rfl := Option.some.inj h
        exact pt_ret hio rfl (.cellA _ _ _ _ underlying24 rfl sz24 (.tmp _ _ .nil)) rfl rfl
       ·have h := cond_f hb58 h
        refine ht_skip ?_
        refine pt_then ?_
        refine yxx hn 0 ?_
        refine yk [2] [] ?_
        refine yt (51, .agg [.v (.int .i64 s30), .fl (.own 5) 1 (List.map (Value.int .u8) s31), .v (.bool s32), .v (.int .i64 s33), .v (.int .i64 s34), .v (.int .i64 s35), .v (.bool s36)]) 0 ⟨op_loadA_take _ _ _ _ underlying24 rfl sz24 rfl rfl⟩ ?_
        refine yk [51,4] [] ?_
        refine yt (4, .box 24 [.v (.int .i64 s30), .fl (.own 5) 1 (List.map (Value.int .u8) s31), .v (.bool s32), .v (.int .i64 s33), .v (.int .i64 s34), .v (.int .i64 s35), .v (.bool s36)]) 1 ⟨op_store_take _ _ _ _ _ _ _ _ sz24 rfl rfl rfl (zl rfl) rfl rfl⟩ ?_
        refine yee [4,5] ?_
        refine ht_ret ?_
        obtain rfl := Option.some.inj h
        exact pt_ret hio rfl (.cellA _ _ _ _ underlying24 rfl sz24 (.tmp _ _ .nil)) rfl rfl
      ·intro u38 h hl39 hr40
       refine yyy hn 2 [2,3,4,8,34] ?_
       refine ht_joinS h (fun ((s44, s45, s46, s47, s48, s49, s50, s51) : Int × (List Int) × Bool × Int × Int × Int × Bool × Bool) => [(2, .box 24 [.v (.int .i64 s44), .fl (.own 5) 1 (List.map (Value.int .u8) s45), .v (.bool s46), .v (.int .i64 s47), .v (.int .i64 s48), .v (.int .i64 s49), .v (.bool s50)]), (4, .box 24 [.v (.int .i64 0), .v (.slice none 0 0), .v (.bool false), .v (.int .i64 0), .v (.int .i64 0), .v (.int .i64 0), .v (.bool false)]), (8, .v (.bool s51))]) ?_ ?_
       ·rintro ⟨s44, s45, s46, s47, s48, s49, s50, s51⟩ h
        exact hl39 _ (Option.some.inj h).symm
       ·intro u52 h hl53 hr54
        refine ht_block ?_
        refine yyy hn 2 [2,3,4,8,34,35] ?_
        refine ht_cond _ rfl (fun hb55 => ?_) (fun hb55 => ?_)
        ·have h := cond_t hb55 h
         obtain ⟨v12, hv12, h⟩ := bind_some h
         refine yx hn 2 ?_
         refine yQ call37 (ok_sender_ready _ _ _ hv12) 2 [38] 0 ?_
         refine yw [8] 1 ?_
         refine ye [2,4,8] ?_
         refine pt_inb ?_
         exact hl53 _ (Option.some.inj h).symm
        ·have h := cond_f hb55 h
         refine yyy hn 2 [2,3,4,8,34,40] ?_
         refine ht_cond _ rfl (fun hb56 => ?_) (fun hb56 => ?_)
         ·have h := cond_t hb56 h
          obtain ⟨v14, hv14, h⟩ := bind_some h
          refine yx hn 2 ?_
          refine yQ call38 (ok_sender_ack _ _ _ hv14) 2 [43] 0 ?_
          refine yw [8] 1 ?_
          refine ye [2,4,8] ?_
          refine pt_inb ?_
          exact hl53 _ (Option.some.inj h).symm
         ·have h := cond_f hb56 h
          refine yyy hn 2 [2,4,8,45] ?_
          refine ht_cond _ rfl (fun hb57 => ?_) (fun hb57 => ?_)
          ·have h := cond_t hb57 h
           refine yx hn 2 ?_
           refine yw [8] 1 ?_
           refine ye [2,4,8] ?_
           refine pt_inb ?_
           exact hl53 _ (Option.some.inj h).symm
          ·have h := cond_f hb57 h
           refine ht_skip ?_
           refine pt_inb ?_
           refine pt_pick [0, 1, 2] (by kernel_rfl) (es' := [(_,_),(_,_),(_,_)]) rfl ?_
           exact hl53 _ (Option.some.inj h).symm
    ·intro u6 h hl7 hr8
     refine cond_some h (fun hg7_5 h => ?_) (fun hg7_5 h => ?_)
     ·refine yx hn 6 ?_
      refine yd hg7_5 3 ?_
      refine ye [2,3,4,29] ?_
      exact hl7 _ (Option.some.inj h).symm
     ·refine yx hn 6 ?_
      refine yd hg7_5 3 ?_
      refine ye [2,3,4,29] ?_
      exact hl7 _ (Option.some.inj h).symm
theorem ok_sender_New (number : Int) (data : (List Int)) (r : (T_Send × Int)) (h : Sh.sender_New number data = some r) : FnOK Try.prog 16 [.v (.int .i64 number), .fl .shr 1 (List.map (Value.int .u8) data)] (.tup [.agg [.v (.int .i64 r.1.Number), .fl (.own 5) 1 (List.map (Value.int .u8) r.1.Data), .v (.bool r.1.Ready), .v (.int .i64 r.1.Base), .v (.int .i64 r.1.Next), .v (.int .i64 r.1.Wait), .v (.bool r.1.Over)], .v (.int .i64 r.2)]) := by
  unfold Sh.sender_New at h
  refine yO 19 func16 fun g0 hn hio => ?_
  refine yxx hn 0 ?_
  refine yS (.box 24 [.v (.int .i64 0), .v (.slice none 0 0), .v (.bool false), .v (.int .i64 0), .v (.int .i64 0), .v (.int .i64 0), .v (.bool false)]) 1 ⟨oA (op_alloc _ _ zr24)⟩ ?_
  refine yee [0,1,4] ?_
  refine ht_seq ?_
  obtain ⟨v1, hv1, h⟩ := bind_some h
  refine yx hn 2 ?_
  refine ys 0 ⟨lk call39 (ok_clone_List_byte _ _ hv1)⟩ ?_
  refine yk [10] [8] ?_
  refine yt (11, .agg [.v (.int .i64 number), .fl (.own 5) 1 (List.map (Value.int .u8) v1), .v (.bool false), .v (.int .i64 0), .v (.int .i64 0), .v (.int .i64 0), .v (.bool false)]) 0 ⟨op_build _ _ _ _ [1, 1, 1, 1, 1, 1, 1] _ _ underlying24 zr24 (fs24 _ underlying24) (.copy _ (.take _ _ Src.nil)) rfl rfl rfl⟩ ?_
  refine yS (.box 24 [.v (.int .i64 0), .v (.slice none 0 0), .v (.bool false), .v (.int .i64 0), .v (.int .i64 0), .v (.int .i64 0), .v (.bool false)]) 0 ⟨oA (op_alloc _ _ zr24)⟩ ?_
  refine yk [11,6] [] ?_
  refine yt (6, .box 24 [.v (.int .i64 number), .fl (.own 5) 1 (List.map (Value.int .u8) v1), .v (.bool false), .v (.int .i64 0), .v (.int .i64 0), .v (.int .i64 0), .v (.bool false)]) 0 ⟨op_store_take _ _ _ _ _ _ _ _ sz24 rfl rfl rfl (zl rfl) rfl rfl⟩ ?_
  refine yee [4,6] ?_
  refine ht_seq ?_
  refine ht_seq ?_
  obtain ⟨v2, hv2, h⟩ := bind_some h
  refine yx hn 1 ?_
  refine ys 1 ⟨lk call17 (ok_sender_Check _ _ hv2)⟩ ?_
  refine yee [4,6,7] ?_
  refine yyy hn 2 [4,6,7,15] ?_
  refine ht_cond _ rfl (fun hb3 => ?_) (fun hb3 => ?_)
  ·have h := cond_t hb3 h
   refine yxx hn 0 ?_
   refine yS (.agg [.v (.int .i64 0), .v (.slice none 0 0), .v (.bool false), .v (.int .i64 0), .v (.int .i64 0), .v (.int .i64 0), .v (.bool false)]) 1 ⟨op_build _ _ _ _ [1, 1, 1, 1, 1, 1, 1] _ _ underlying24 zr24 (fs24 _ underlying24) Src.nil rfl rfl rfl⟩ ?_
   refine yk [16,4] [] ?_
   refine yt (4, .box 24 [.v (.int .i64 0), .v (.slice none 0 0), .v (.bool false), .v (.int .i64 0), .v (.int .i64 0), .v (.int .i64 0), .v (.bool false)]) 1 ⟨op_store_self _ _ _ 16 4 7 sz24 rfl rfl rfl rfl rfl (.eq _ (.eq _ (.eq _ (.eq _ (.eq _ (.eq _ (.eq _ (.nil _)))))))) rfl⟩ ?_
   refine yee [4,5] ?_
   refine ht_ret ?_
   refine pt_sub (fs := [(4, .box 24 [.v (.int .i64 0), .fl (.own 5) 1 (List.map (Value.int .u8) []), .v (.bool false), .v (.int .i64 0), .v (.int .i64 0), .v (.int .i64 0), .v (.bool false)]), (5, .v (.int .i64 v2))]) (.box _ _ (subs_cons (sub_refl _) (subs_cons (sub_nil 5 1) (subs_cons (sub_refl _) (subs_cons (sub_refl _) (subs_cons (sub_refl _) (subs_cons (sub_refl _) (subs_cons (sub_refl _) (subs_nil)))))))) rfl (.same _ .nil)) ?_
   refine pt_r_then ?_
   obtain rfl := Option.some.inj h
   exact pt_ret hio rfl (.cellA _ _ _ _ underlying24 rfl sz24 (.tmp _ _ .nil)) rfl rfl
  ·have h := cond_f hb3 h
   refine ht_skip ?_
   refine pt_then ?_
   refine yxx hn 0 ?_
   refine yk [6] [] ?_
   refine yt (18, .agg [.v (.int .i64 number), .fl (.own 5) 1 (List.map (Value.int .u8) v1), .v (.bool false), .v (.int .i64 0), .v (.int .i64 0), .v (.int .i64 0), .v (.bool false)]) 0 ⟨op_loadA_take _ _ _ _ underlying24 rfl sz24 rfl rfl⟩ ?_
   refine yk [18,4] [] ?_
   refine yt (4, .box 24 [.v (.int .i64 number), .fl (.own 5) 1 (List.map (Value.int .u8) v1), .v (.bool false), .v (.int .i64 0), .v (.int .i64 0), .v (.int .i64 0), .v (.bool false)]) 1 ⟨op_store_take _ _ _ _ _ _ _ _ sz24 rfl rfl rfl (zl rfl) rfl rfl⟩ ?_
   refine yee [4,5] ?_
   refine ht_ret ?_
   obtain rfl := Option.some.inj h
   exact pt_ret hio rfl (.cellA _ _ _ _ underlying24 rfl sz24 (.tmp _ _ .nil)) rfl rfl
theorem ok_sender_Pieces (s : T_Send) (r : Int) (h : Sh.sender_Pieces s = some r) : FnOK Try.prog 18 [.agg [.v (.int .i64 s.Number), .fl .shr 1 (List.map (Value.int .u8) s.Data), .v (.bool s.Ready), .v (.int .i64 s.Base), .v (.int .i64 s.Next), .v (.int .i64 s.Wait), .v (.bool s.Over)]] (.v (.int .i64 r)) := by
  unfold Sh.sender_Pieces at h
  refine yO 8 func18 fun g0 hn hio => ?_
  refine yyy hn 2 [1] ?_
  refine ht_seq ?_
  refine ht_seq ?_
  obtain ⟨v1, hv1, h⟩ := bind_some h
  refine yx hn 1 ?_
  refine ys 1 ⟨lk call17 (ok_sender_Check _ _ hv1)⟩ ?_
  refine yee [1,5] ?_
  refine ht_cond _ rfl (fun hb2 => ?_) (fun hb2 => ?_)
  ·have h := cond_t hb2 h
   refine yyy hn 1 [2] ?_
   refine ht_ret ?_
   refine pt_r_then ?_
   obtain rfl := Option.some.inj h
   exact pt_ret hio rfl (.tmp _ _ .nil) rfl rfl
  ·have h := cond_f hb2 h
   refine ht_skip ?_
   refine pt_then (ht_seq ?_)
   obtain ⟨v3, hv3, h⟩ := bind_some h
   refine yx hn 1 ?_
   refine ys 1 ⟨lk call33 (ok_sender_pieces _ _ hv3)⟩ ?_
   refine yee [2] ?_
   refine ht_ret ?_
   obtain rfl := Option.some.inj h
   exact pt_ret hio rfl (.tmp _ _ .nil) rfl rfl
theorem ok_wherryref18_Pieces (s : T_Send) (r : Int) (h : Sh.wherryref18_Pieces s = some r) : FnOK Try.prog 19 [.agg [.v (.int .i64 s.Number), .fl .shr 1 (List.map (Value.int .u8) s.Data), .v (.bool s.Ready), .v (.int .i64 s.Base), .v (.int .i64 s.Next), .v (.int .i64 s.Wait), .v (.bool s.Over)]] (.v (.int .i64 r)) := by
  unfold Sh.wherryref18_Pieces at h
  refine yO 9 func19 fun g0 hn hio => ?_
  refine yyy hn 2 [1] ?_
  refine ht_seq ?_
  refine ht_seq ?_
  obtain ⟨v1, hv1, h⟩ := bind_some h
  refine yx hn 1 ?_
  refine ys 1 ⟨lk call13 (ok_wherryref18_Send _ _ hv1)⟩ ?_
  refine yee [1,5] ?_
  refine ht_cond _ rfl (fun hb2 => ?_) (fun hb2 => ?_)
  ·have h := cond_t hb2 h
   refine yyy hn 1 [2] ?_
   refine ht_ret ?_
   refine pt_r_then ?_
   obtain rfl := Option.some.inj h
   exact pt_ret hio rfl (.tmp _ _ .nil) rfl rfl
  ·have h := cond_f hb2 h
   refine ht_skip ?_
   refine pt_then (ht_seq ?_)
   obtain ⟨v3, hv3, h⟩ := bind_some h
   refine yx hn 2 ?_
   refine ys 1 ⟨lk call29 (ok_wherryref18_pieces _ _ hv3)⟩ ?_
   refine yee [2] ?_
   refine ht_ret ?_
   obtain rfl := Option.some.inj h
   exact pt_ret hio rfl (.tmp _ _ .nil) rfl rfl
theorem ok_wherrykeep_Bytes (a : (List Int)) (b : (List Int)) (r : Bool) (h : Sh.wherrykeep_Bytes a b = some r) : FnOK Try.prog 28 [.fl .shr 1 (List.map (Value.int .u8) a), .fl .shr 1 (List.map (Value.int .u8) b)] (.v (.bool r)) := by
  unfold Sh.wherrykeep_Bytes at h
  refine yO 26 func28 fun g0 hn hio => ?_
  refine yyy hn 1 [0,1] ?_
  refine ht_seq ?_
  refine yyy hn 5 [0,1,10] ?_
  refine ht_cond _ rfl (fun hb1 => ?_) (fun hb1 => ?_)
  ·have h := cond_t hb1 h
   refine yyy hn 1 [4] ?_
   refine ht_ret ?_
   refine pt_r_then ?_
   obtain rfl := Option.some.inj h
   exact pt_ret hio rfl (.tmp _ _ .nil) rfl rfl
  ·have h := cond_f hb1 h
   refine ht_skip ?_
   refine pt_then (ht_seq ?_)
   refine yyy hn 1 [0,1,5] ?_
   refine ht_loopS h (fun (s12 : Int) => [(0, .fl .shr 1 (List.map (Value.int .u8) a)), (1, .fl .shr 1 (List.map (Value.int .u8) b)), (5, .v (.int .i64 s12))]) (fun (() : Unit) => []) ?_ ?_
   ·rintro ⟨⟩ h
    refine pt_then ?_
    refine yyy hn 1 [4] ?_
    refine ht_ret ?_
    obtain rfl := Option.some.inj h
    exact pt_ret hio rfl (.tmp _ _ .nil) rfl rfl
   ·rintro u15 hl16 hr17 s12 rr20 h ho18
    refine ht_seq ?_
    refine yyy hn 4 [0,1,5,14] ?_
    refine ht_cond _ rfl (fun hb21 => ?_) (fun hb21 => ?_)
    ·have h := cond_t hb21 h
     refine ht_skip ?_
     refine pt_then (ht_seq ?_)
     refine ht_block ?_
     refine ht_seq ?_
     obtain ⟨v3, hv3, h⟩ := bind_some h
     obtain ⟨v4, hv4, h⟩ := bind_some h
     obtain ⟨v5, hv5, h⟩ := bind_some h
     obtain ⟨v6, hv6, h⟩ := bind_some h
     refine wb [[0],[5]] ?_
     refine wN [17,18] ?_
     refine wo [] ⟨li hv3⟩ ?_
     refine wN [19,17] ?_
     refine wo [[1],[5]] ⟨ll hv4⟩ ?_
     refine wN [21,22] ?_
     refine wo [] ⟨li hv5⟩ ?_
     refine wN [23,21] ?_
     refine wo [[20,24]] ⟨ll hv6⟩ ?_
     refine wee hn [0,1,5,25] ?_
     refine ht_cond _ rfl (fun hb22 => ?_) (fun hb22 => ?_)
     ·have h := cond_t hb22 h
      refine yyy hn 1 [4] ?_
      refine ht_ret ?_
      refine pt_r_in ?_
      refine pt_r_then ?_
      refine pt_r_then ?_
      refine pt_r_in ?_
      refine pt_r_then ?_
      have h := hr17 _ (ho18 _ (Option.some.inj h).symm).symm
      obtain rfl := Option.some.inj h
      exact pt_ret hio rfl (.tmp _ _ .nil) rfl rfl
     ·have h := cond_f hb22 h
      refine ht_skip ?_
      refine pt_inb ?_
      refine pt_then ?_
      obtain ⟨v8, hv8, h⟩ := bind_some h
      refine yx hn 1 ?_
      refine ys 0 ⟨lb hv8⟩ ?_
      refine yw [5] 1 ?_
      refine ye [0,1,5] ?_
      exact pt_next _ (Option.some.inj h).symm rfl
    ·have h := cond_f hb21 h
     refine ht_exit ?_
     refine pt_x_then ?_
     refine pt_x_then ?_
     refine pt_x_in ?_
     refine pt_pick [] (by kernel_rfl) (es' := []) rfl ?_
     exact hl16 _ (ho18 _ (Option.some.inj h).symm).symm
theorem ok_wherrykeep_Send (a : T_Send) (b : T_Send) (r : Bool) (h : Sh.wherrykeep_Send a b = some r) : FnOK Try.prog 20 [.agg [.v (.int .i64 a.Number), .fl .shr 1 (List.map (Value.int .u8) a.Data), .v (.bool a.Ready), .v (.int .i64 a.Base), .v (.int .i64 a.Next), .v (.int .i64 a.Wait), .v (.bool a.Over)], .agg [.v (.int .i64 b.Number), .fl .shr 1 (List.map (Value.int .u8) b.Data), .v (.bool b.Ready), .v (.int .i64 b.Base), .v (.int .i64 b.Next), .v (.int .i64 b.Wait), .v (.bool b.Over)]] (.v (.bool r)) := by
  unfold Sh.wherrykeep_Send at h
  refine yO 52 func20 fun g0 hn hio => ?_
  refine yyy hn 3 [2,3] ?_
  refine ht_seq ?_
  refine ht_joinS h (fun (s4 : Bool) => [(4, .v (.bool s4))]) ?_ ?_
  ·rintro s4 h
   refine pt_then (ht_ret ?_)
   obtain rfl := Option.some.inj h
   exact pt_ret hio rfl (.tmp _ _ .nil) rfl rfl
  ·intro u5 h hl6 hr7
   refine cond_some h (fun hg1_5 h => ?_) (fun hg1_5 h => ?_)
   ·obtain ⟨v1, hv1, h⟩ := bind_some h
    refine cond_some h (fun hg1_12 h => ?_) (fun hg1_12 h => ?_)
    ·obtain ⟨v2, hv2, h⟩ := bind_some h
     refine cond_some h (fun hg1_19 h => ?_) (fun hg1_19 h => ?_)
     ·refine cond_some h (fun hg1_26 h => ?_) (fun hg1_26 h => ?_)
      ·refine cond_some h (fun hg1_33 h => ?_) (fun hg1_33 h => ?_)
       ·refine cond_some h (fun hg1_40 h => ?_) (fun hg1_40 h => ?_)
        ·obtain ⟨v3, hv3, h⟩ := bind_some h
         refine yx hn 6 ?_
         refine yd hg1_5 4 ?_
         refine ys 2 ⟨lk call28 (ok_wherrykeep_Bytes _ _ _ hv1)⟩ ?_
         refine yd hg1_12 4 ?_
         refine yS (.v (.bool (a.Ready == b.Ready))) 2 ⟨op_beq _ _ _ _ underlying4 rfl rfl⟩ ?_
         refine yd hg1_19 7 ?_
         refine yd hg1_26 7 ?_
         refine yd hg1_33 7 ?_
         refine yd hg1_40 4 ?_
         refine yS (.v (.bool (a.Over == b.Over))) 2 ⟨op_beq _ _ _ _ underlying4 rfl rfl⟩ ?_
         refine ye [4] ?_
         exact hl6 _ (Option.some.inj h).symm
        ·refine yx hn 6 ?_
         refine yd hg1_5 4 ?_
         refine ys 2 ⟨lk call28 (ok_wherrykeep_Bytes _ _ _ hv1)⟩ ?_
         refine yd hg1_12 4 ?_
         refine yS (.v (.bool (a.Ready == b.Ready))) 2 ⟨op_beq _ _ _ _ underlying4 rfl rfl⟩ ?_
         refine yd hg1_19 7 ?_
         refine yd hg1_26 7 ?_
         refine yd hg1_33 7 ?_
         refine yd hg1_40 7 ?_
         refine ye [4] ?_
         exact hl6 _ (Option.some.inj h).symm
       ·refine yx hn 6 ?_
        refine yd hg1_5 4 ?_
        refine ys 2 ⟨lk call28 (ok_wherrykeep_Bytes _ _ _ hv1)⟩ ?_
        refine yd hg1_12 4 ?_
        refine yS (.v (.bool (a.Ready == b.Ready))) 2 ⟨op_beq _ _ _ _ underlying4 rfl rfl⟩ ?_
        refine yd hg1_19 7 ?_
        refine yd hg1_26 7 ?_
        refine yd hg1_33 14 ?_
        refine ye [4] ?_
        exact hl6 _ (Option.some.inj h).symm
      ·refine yx hn 6 ?_
       refine yd hg1_5 4 ?_
       refine ys 2 ⟨lk call28 (ok_wherrykeep_Bytes _ _ _ hv1)⟩ ?_
       refine yd hg1_12 4 ?_
       refine yS (.v (.bool (a.Ready == b.Ready))) 2 ⟨op_beq _ _ _ _ underlying4 rfl rfl⟩ ?_
       refine yd hg1_19 7 ?_
       refine yd hg1_26 21 ?_
       refine ye [4] ?_
       exact hl6 _ (Option.some.inj h).symm
     ·refine yx hn 6 ?_
      refine yd hg1_5 4 ?_
      refine ys 2 ⟨lk call28 (ok_wherrykeep_Bytes _ _ _ hv1)⟩ ?_
      refine yd hg1_12 4 ?_
      refine yS (.v (.bool (a.Ready == b.Ready))) 2 ⟨op_beq _ _ _ _ underlying4 rfl rfl⟩ ?_
      refine yd hg1_19 28 ?_
      refine ye [4] ?_
      exact hl6 _ (Option.some.inj h).symm
    ·refine yx hn 6 ?_
     refine yd hg1_5 4 ?_
     refine ys 2 ⟨lk call28 (ok_wherrykeep_Bytes _ _ _ hv1)⟩ ?_
     refine yd hg1_12 35 ?_
     refine ye [4] ?_
     exact hl6 _ (Option.some.inj h).symm
   ·refine yx hn 6 ?_
    refine yd hg1_5 42 ?_
    refine ye [4] ?_
    exact hl6 _ (Option.some.inj h).symm
theorem ok_wherrylaw21_wakes (r : Bool) (h : Sh.wherrylaw21_wakes  = some r) : FnOK Try.prog 21 [] (.v (.bool r)) := by
  unfold Sh.wherrylaw21_wakes at h
  refine yO 52 func21 fun g0 hn hio => ?_
  refine yyy hn 1 [] ?_
  refine ht_seq ?_
  obtain ⟨v1, hv1, h⟩ := bind_some h
  refine yx hn 0 ?_
  refine yS (.fl (.own 5) 1 (List.map (Value.int .u8) [7])) 0 ⟨op_buildSlice _ _ 1 (.int .u8 0) (List.map (Value.int .u8) [7]) [(0, .int .u8 7)] underlying22 sz5 zr5 (fun _ V w o a hv hes => by simp only [List.map_toArray, List.map_cons, List.map_nil]; try rfl) (litfill (by simp [Instr.fill, Value.cells]; rfl) (by simp [List.range, List.range.loop] <;> rfl)) (by simp [Value.oneCell']) rfl (by decide) (by decide) (by decide)⟩ ?_
  refine ys 0 ⟨lk call16 (ok_sender_New _ _ _ hv1)⟩ ?_
  refine ym 0 ?_
  refine yx_ 1 ?_
  refine yS (.box 24 [.v (.int .i64 0), .v (.slice none 0 0), .v (.bool false), .v (.int .i64 0), .v (.int .i64 0), .v (.int .i64 0), .v (.bool false)]) 0 ⟨oA (op_alloc _ _ zr24)⟩ ?_
  refine yk [9,1] [] ?_
  refine yt (1, .box 24 [.v (.int .i64 v1.1.Number), .fl (.own 5) 1 (List.map (Value.int .u8) v1.1.Data), .v (.bool v1.1.Ready), .v (.int .i64 v1.1.Base), .v (.int .i64 v1.1.Next), .v (.int .i64 v1.1.Wait), .v (.bool v1.1.Over)]) 1 ⟨op_store_take _ _ _ _ _ _ _ _ sz24 rfl rfl rfl (zl rfl) rfl rfl⟩ ?_
  refine yee [1,2] ?_
  refine ht_seq ?_
  obtain ⟨v2, hv2, h⟩ := bind_some h
  refine yx hn 1 ?_
  refine yS (.tup [.agg [.v (.int .i64 v2.1.Number), .fl (.own 5) 1 (List.map (Value.int .u8) v2.1.Data), .v (.bool v2.1.Ready), .v (.int .i64 v2.1.Base), .v (.int .i64 v2.1.Next), .v (.int .i64 v2.1.Wait), .v (.bool v2.1.Over)], .hid (ownJ 26 5 (List.flatten (List.map oe26 v2.2.1))), .v (.int .i64 v2.2.2)]) 0 ⟨op_callNI _ _ 14 _ _ rfl call14 rfl (ok_sender_Tick v1.1 _ hv2) rfl (noIm_tup (noIms_cons (noIm_of rfl rfl) (noIms_cons (noIm_hid (oe_closed oe26_c _) (oe_noShr oe26_s _)) (noIms_cons (noIm_of rfl rfl) (noIms_nil)))))⟩ ?_
  refine ym 0 ?_
  refine yx_ 0 ?_
  refine yx_ 1 ?_
  refine yS (.box 24 [.v (.int .i64 0), .v (.slice none 0 0), .v (.bool false), .v (.int .i64 0), .v (.int .i64 0), .v (.int .i64 0), .v (.bool false)]) 0 ⟨oA (op_alloc _ _ zr24)⟩ ?_
  refine yk [14,3] [] ?_
  refine yt (3, .box 24 [.v (.int .i64 v2.1.Number), .fl (.own 5) 1 (List.map (Value.int .u8) v2.1.Data), .v (.bool v2.1.Ready), .v (.int .i64 v2.1.Base), .v (.int .i64 v2.1.Next), .v (.int .i64 v2.1.Wait), .v (.bool v2.1.Over)]) 0 ⟨op_store_take _ _ _ _ _ _ _ _ sz24 rfl rfl rfl (zl rfl) rfl rfl⟩ ?_
  refine ya 1 ?_
  refine yee [1,2,3,4,5] ?_
  refine ht_seq ?_
  refine ht_joinS h (fun (s8 : Bool) => [(0, .v (.bool s8))]) ?_ ?_
  ·rintro s8 h
   refine pt_then (ht_ret ?_)
   obtain rfl := Option.some.inj h
   exact pt_ret hio rfl (.tmp _ _ .nil) rfl rfl
  ·intro u9 h hl10 hr11
   refine cond_some h (fun hg3_2 h => ?_) (fun hg3_2 h => ?_)
   ·refine cond_some h (fun hg3_6 h => ?_) (fun hg3_6 h => ?_)
    ·refine cond_some h (fun hg3_11 h => ?_) (fun hg3_11 h => ?_)
     ·obtain ⟨v3, hv3, h⟩ := bind_some h
      obtain ⟨v4, hv4, h⟩ := bind_some h
      refine cond_some h (fun hg3_18 h => ?_) (fun hg3_18 h => ?_)
      ·obtain ⟨v5, hv5, h⟩ := bind_some h
       obtain ⟨v6, hv6, h⟩ := bind_some h
       refine cond_some h (fun hg3_25 h => ?_) (fun hg3_25 h => ?_)
       ·refine cond_some h (fun hg3_30 h => ?_) (fun hg3_30 h => ?_)
        ·obtain ⟨v7, hv7, h⟩ := bind_some h
         refine ht_pick [3, 0, 1, 2, 4] rfl rfl ?_
         refine ht_openO 61 fun ov3 oh3 => ?_
         refine yx hn 3 ?_
         refine yd hg3_2 4 ?_
         refine yd hg3_6 1 ?_
         refine yS (.v (.int .i64 (v2.2.1.length : Int))) 3 ⟨op_len_fl _ _ _ underlying31 rfl (by decide) (oe_len oe26_l oh3)⟩ ?_
         refine yd hg3_11 1 ?_
         refine yS (.eref (.slot 4) (v3 * 5)) 1 ⟨op_ix _ _ _ _ _ _ _ _ underlying31 sz26 (by decide) rfl rfl rfl (ix_ok hv3).1 (oe_lt oe26_l oh3 (ix_ok hv3).2) rfl⟩ ?_
         refine yS (.v (.int .i64 v4.Kind)) 3 ⟨LOp.ownEq (gs := 61) (by repeat first | exact List.Mem.head _ | apply List.Mem.tail) (oe_get oe26_l oh3 hv4 (by decide)) (gflat_cell oe26_l hv4 rfl) (fun e => op_load_e _ _ _ _ _ _ underlying3 rfl rfl rfl ((oe_get oe26_l oh3 hv4 (by decide)).trans (congrArg some e)))⟩ ?_
         refine yd hg3_18 0 ?_
         refine yw [24, 29, 30, 31] 0 ?_
         refine ym 0 ?_
         refine yS (.eref (.slot 36) (v5 * 5)) 1 ⟨op_ix _ _ _ _ _ _ _ _ underlying31 sz26 (by decide) rfl rfl rfl (ix_ok hv5).1 (oe_lt oe26_l oh3 (ix_ok hv5).2) rfl⟩ ?_
         refine yS (.v (.int .i64 v6.Offset)) 3 ⟨LOp.ownEq (gs := 61) (by repeat first | exact List.Mem.head _ | apply List.Mem.tail) (oe_get oe26_l oh3 hv6 (by decide)) (gflat_cell oe26_l hv6 rfl) (fun e => op_load_e _ _ _ _ _ _ underlying3 rfl rfl rfl ((oe_get oe26_l oh3 hv6 (by decide)).trans (congrArg some e)))⟩ ?_
         refine yd hg3_25 5 ?_
         refine yd hg3_30 0 ?_
         refine yk [1] [] ?_
         refine yt (48, .agg [.v (.int .i64 v1.1.Number), .fl (.own 5) 1 (List.map (Value.int .u8) v1.1.Data), .v (.bool v1.1.Ready), .v (.int .i64 v1.1.Base), .v (.int .i64 v1.1.Next), .v (.int .i64 v1.1.Wait), .v (.bool v1.1.Over)]) 0 ⟨op_loadA_take _ _ _ _ underlying24 rfl sz24 rfl rfl⟩ ?_
         refine ys 3 ⟨lk call18 (ok_sender_Pieces _ _ hv7)⟩ ?_
         refine ye [0] ?_
         exact hl10 _ (Option.some.inj h).symm
        ·refine ht_pick [3, 0, 1, 2, 4] rfl rfl ?_
         refine ht_openO 61 fun ov3 oh3 => ?_
         refine yx hn 3 ?_
         refine yd hg3_2 4 ?_
         refine yd hg3_6 1 ?_
         refine yS (.v (.int .i64 (v2.2.1.length : Int))) 3 ⟨op_len_fl _ _ _ underlying31 rfl (by decide) (oe_len oe26_l oh3)⟩ ?_
         refine yd hg3_11 1 ?_
         refine yS (.eref (.slot 4) (v3 * 5)) 1 ⟨op_ix _ _ _ _ _ _ _ _ underlying31 sz26 (by decide) rfl rfl rfl (ix_ok hv3).1 (oe_lt oe26_l oh3 (ix_ok hv3).2) rfl⟩ ?_
         refine yS (.v (.int .i64 v4.Kind)) 3 ⟨LOp.ownEq (gs := 61) (by repeat first | exact List.Mem.head _ | apply List.Mem.tail) (oe_get oe26_l oh3 hv4 (by decide)) (gflat_cell oe26_l hv4 rfl) (fun e => op_load_e _ _ _ _ _ _ underlying3 rfl rfl rfl ((oe_get oe26_l oh3 hv4 (by decide)).trans (congrArg some e)))⟩ ?_
         refine yd hg3_18 0 ?_
         refine yw [24, 29, 30, 31] 0 ?_
         refine ym 0 ?_
         refine yS (.eref (.slot 36) (v5 * 5)) 1 ⟨op_ix _ _ _ _ _ _ _ _ underlying31 sz26 (by decide) rfl rfl rfl (ix_ok hv5).1 (oe_lt oe26_l oh3 (ix_ok hv5).2) rfl⟩ ?_
         refine yS (.v (.int .i64 v6.Offset)) 3 ⟨LOp.ownEq (gs := 61) (by repeat first | exact List.Mem.head _ | apply List.Mem.tail) (oe_get oe26_l oh3 hv6 (by decide)) (gflat_cell oe26_l hv6 rfl) (fun e => op_load_e _ _ _ _ _ _ underlying3 rfl rfl rfl ((oe_get oe26_l oh3 hv6 (by decide)).trans (congrArg some e)))⟩ ?_
         refine yd hg3_25 5 ?_
         refine yd hg3_30 5 ?_
         refine ye [0] ?_
         exact hl10 _ (Option.some.inj h).symm
       ·refine ht_pick [3, 0, 1, 2, 4] rfl rfl ?_
        refine ht_openO 61 fun ov3 oh3 => ?_
        refine yx hn 3 ?_
        refine yd hg3_2 4 ?_
        refine yd hg3_6 1 ?_
        refine yS (.v (.int .i64 (v2.2.1.length : Int))) 3 ⟨op_len_fl _ _ _ underlying31 rfl (by decide) (oe_len oe26_l oh3)⟩ ?_
        refine yd hg3_11 1 ?_
        refine yS (.eref (.slot 4) (v3 * 5)) 1 ⟨op_ix _ _ _ _ _ _ _ _ underlying31 sz26 (by decide) rfl rfl rfl (ix_ok hv3).1 (oe_lt oe26_l oh3 (ix_ok hv3).2) rfl⟩ ?_
        refine yS (.v (.int .i64 v4.Kind)) 3 ⟨LOp.ownEq (gs := 61) (by repeat first | exact List.Mem.head _ | apply List.Mem.tail) (oe_get oe26_l oh3 hv4 (by decide)) (gflat_cell oe26_l hv4 rfl) (fun e => op_load_e _ _ _ _ _ _ underlying3 rfl rfl rfl ((oe_get oe26_l oh3 hv4 (by decide)).trans (congrArg some e)))⟩ ?_
        refine yd hg3_18 0 ?_
        refine yw [24, 29, 30, 31] 0 ?_
        refine ym 0 ?_
        refine yS (.eref (.slot 36) (v5 * 5)) 1 ⟨op_ix _ _ _ _ _ _ _ _ underlying31 sz26 (by decide) rfl rfl rfl (ix_ok hv5).1 (oe_lt oe26_l oh3 (ix_ok hv5).2) rfl⟩ ?_
        refine yS (.v (.int .i64 v6.Offset)) 3 ⟨LOp.ownEq (gs := 61) (by repeat first | exact List.Mem.head _ | apply List.Mem.tail) (oe_get oe26_l oh3 hv6 (by decide)) (gflat_cell oe26_l hv6 rfl) (fun e => op_load_e _ _ _ _ _ _ underlying3 rfl rfl rfl ((oe_get oe26_l oh3 hv6 (by decide)).trans (congrArg some e)))⟩ ?_
        refine yd hg3_25 10 ?_
        refine ye [0] ?_
        exact hl10 _ (Option.some.inj h).symm
      ·refine ht_pick [3, 0, 1, 2, 4] rfl rfl ?_
       refine ht_openO 61 fun ov3 oh3 => ?_
       refine yx hn 3 ?_
       refine yd hg3_2 4 ?_
       refine yd hg3_6 1 ?_
       refine yS (.v (.int .i64 (v2.2.1.length : Int))) 3 ⟨op_len_fl _ _ _ underlying31 rfl (by decide) (oe_len oe26_l oh3)⟩ ?_
       refine yd hg3_11 1 ?_
       refine yS (.eref (.slot 4) (v3 * 5)) 1 ⟨op_ix _ _ _ _ _ _ _ _ underlying31 sz26 (by decide) rfl rfl rfl (ix_ok hv3).1 (oe_lt oe26_l oh3 (ix_ok hv3).2) rfl⟩ ?_
       refine yS (.v (.int .i64 v4.Kind)) 3 ⟨LOp.ownEq (gs := 61) (by repeat first | exact List.Mem.head _ | apply List.Mem.tail) (oe_get oe26_l oh3 hv4 (by decide)) (gflat_cell oe26_l hv4 rfl) (fun e => op_load_e _ _ _ _ _ _ underlying3 rfl rfl rfl ((oe_get oe26_l oh3 hv4 (by decide)).trans (congrArg some e)))⟩ ?_
       refine yd hg3_18 17 ?_
       refine ye [0] ?_
       exact hl10 _ (Option.some.inj h).symm
     ·refine ht_pick [3, 0, 1, 2, 4] rfl rfl ?_
      refine ht_openO 61 fun ov3 oh3 => ?_
      refine yx hn 3 ?_
      refine yd hg3_2 4 ?_
      refine yd hg3_6 1 ?_
      refine yS (.v (.int .i64 (v2.2.1.length : Int))) 3 ⟨op_len_fl _ _ _ underlying31 rfl (by decide) (oe_len oe26_l oh3)⟩ ?_
      refine yd hg3_11 24 ?_
      refine ye [0] ?_
      exact hl10 _ (Option.some.inj h).symm
    ·refine ht_pick [3, 0, 1, 2, 4] rfl rfl ?_
     refine ht_openO 61 fun ov3 oh3 => ?_
     refine yx hn 3 ?_
     refine yd hg3_2 4 ?_
     refine yd hg3_6 29 ?_
     refine ye [0] ?_
     exact hl10 _ (Option.some.inj h).symm
   ·refine ht_pick [3, 0, 1, 2, 4] rfl rfl ?_
    refine ht_openO 61 fun ov3 oh3 => ?_
    refine yx hn 3 ?_
    refine yd hg3_2 33 ?_
    refine ye [0] ?_
    exact hl10 _ (Option.some.inj h).symm
theorem ok_wherryref18_chunk (s : T_Send) (i : Int) (r : T_Frame) (h : Sh.wherryref18_chunk s i = some r) : FnOK Try.prog 40 [.agg [.v (.int .i64 s.Number), .fl .shr 1 (List.map (Value.int .u8) s.Data), .v (.bool s.Ready), .v (.int .i64 s.Base), .v (.int .i64 s.Next), .v (.int .i64 s.Wait), .v (.bool s.Over)], .v (.int .i64 i)] (.agg [.v (.int .i64 r.Kind), .v (.int .i64 r.Number), .v (.int .i64 r.Offset), .v (.int .i64 r.Seq), .fl (.own 5) 1 (List.map (Value.int .u8) r.Data)]) := by
  unfold Sh.wherryref18_chunk at h
  refine yO 25 func40 fun g0 hn hio => ?_
  refine yxx hn 1 ?_
  refine yS (.box 26 [.v (.int .i64 0), .v (.int .i64 0), .v (.int .i64 0), .v (.int .i64 0), .v (.slice none 0 0)]) 0 ⟨oA (op_alloc _ _ zr26)⟩ ?_
  refine yee [1,2,4] ?_
  refine ht_seq ?_
  obtain ⟨v1, hv1, h⟩ := bind_some h
  refine yx hn 1 ?_
  refine ys 1 ⟨lb hv1⟩ ?_
  refine yee [1,2,4,5] ?_
  refine ht_seq ?_
  obtain ⟨v2, hv2, h⟩ := bind_some h
  obtain ⟨v3, hv3, h⟩ := bind_some h
  obtain ⟨v4, hv4, h⟩ := bind_some h
  obtain ⟨v5, hv5, h⟩ := bind_some h
  obtain ⟨v6, hv6, h⟩ := bind_some h
  refine wb [[2],[8,2],[5],[1]] ?_
  refine wN [11] ?_
  refine wo [[2],[13,2],[5],[5]] ⟨lB (rem_ok hv2)⟩ ?_
  refine wN [16] ?_
  refine wo [[2],[18,2],[19]] ⟨lb hv3⟩ ?_
  refine wN [17,20] ?_
  refine wS (.v (.int .i64 v4)) [] ⟨(Option.some.inj hv4) ▸ op_min _ _ _ _ rfl rfl⟩ ?_
  refine wN [14,15,21] ?_
  refine wS (.fl .shr 1 (List.map (Value.int .u8) v5)) [] ⟨op_sl _ _ _ v1 v4 _ underlying22 sz5 rfl rfl ⟨_, rfl⟩ ⟨_, rfl⟩ hv5⟩ ?_
  refine wN [22] ?_
  refine wo [] ⟨lk call12 (ok_wherrykeep_Twin _ _ hv6)⟩ ?_
  refine wK [23] [9,10,12] ?_
  refine wt [(24, .agg [.v (.int .i64 3), .v (.int .i64 s.Number), .v (.int .i64 v1), .v (.int .i64 v2), .fl (.own 5) 1 (List.map (Value.int .u8) v6)])] [] ⟨op_build _ _ _ _ [1, 1, 1, 1, 1] _ _ underlying26 zr26 (fs26 _ underlying26) (.copy _ (.copy _ (.copy _ (.copy _ (.take _ _ Src.nil))))) rfl rfl rfl⟩ ?_
  refine wK [24,4] [] ?_
  refine wt [(4, .box 26 [.v (.int .i64 3), .v (.int .i64 s.Number), .v (.int .i64 v1), .v (.int .i64 v2), .fl (.own 5) 1 (List.map (Value.int .u8) v6)])] [] ⟨op_store_take _ _ _ _ _ _ _ _ sz26 rfl rfl rfl (zl rfl) rfl rfl⟩ ?_
  refine wee hn [4] ?_
  refine ht_ret ?_
  obtain rfl := Option.some.inj h
  exact pt_ret hio rfl (.cellA _ _ _ _ underlying26 rfl sz26 .nil) rfl rfl
end Go.Proofs.Ytdligpdfcfbgpaa
