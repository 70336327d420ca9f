/-
  The model's runs are what is told in Lean.
-/
import Derived.Test.YtdligpdfcfbgpaaProg
import Derived.KernelRfl
import Derived.Test.YtdligpdfcfbgpaaBE
import Derived.Test.YtdligpdfcfbgpaaC1
import Derived.Test.YtdligpdfcfbgpaaOkc2
set_option linter.unusedVariables false
set_option linter.unusedSimpArgs false
set_option maxHeartbeats 1000000
namespace Go.Proofs.Ytdligpdfcfbgpaa
open Go.Abs Go.Abs.Sh Try
theorem ok_wherryref18_Tick (s : T_Send) (r : (T_Send × (List T_Frame))) (h : Sh.wherryref18_Tick s = some r) : FnOK Try.prog 22 [.agg [.v (.int .i64 s.Number), .fl .shr 1 (List.map (Value.int .u8) s.Data), .v (.bool s.Ready), .v (.int .i64 s.Base), .v (.int .i64 s.Next), .v (.int .i64 s.Wait), .v (.bool s.Over)]] (.tup [.agg [.v (.int .i64 r.1.Number), .fl (.own 5) 1 (List.map (Value.int .u8) r.1.Data), .v (.bool r.1.Ready), .v (.int .i64 r.1.Base), .v (.int .i64 r.1.Next), .v (.int .i64 r.1.Wait), .v (.bool r.1.Over)], .fr (.own 26) false 5 (List.flatten (List.map T_Frame.ienc r.2))]) := by
  unfold Sh.wherryref18_Tick at h
  refine yO 93 func22 fun g0 hn hio => ?_
  refine yxx hn 1 ?_
  refine yS (.box 24 [.v (.int .i64 0), .v (.slice none 0 0), .v (.bool false), .v (.int .i64 0), .v (.int .i64 0), .v (.int .i64 0), .v (.bool false)]) 1 ⟨oA (op_alloc _ _ zr24)⟩ ?_
  refine yee [1,2] ?_
  refine ht_seq ?_
  obtain ⟨v1, hv1, h⟩ := bind_some h
  refine yx hn 1 ?_
  refine ys 0 ⟨lk call10 (ok_wherrykeep_TwinSend _ _ hv1)⟩ ?_
  refine yS (.box 24 [.v (.int .i64 0), .v (.slice none 0 0), .v (.bool false), .v (.int .i64 0), .v (.int .i64 0), .v (.int .i64 0), .v (.bool false)]) 0 ⟨oA (op_alloc _ _ zr24)⟩ ?_
  refine yk [10,4] [] ?_
  refine yt (4, .box 24 [.v (.int .i64 v1.Number), .fl (.own 5) 1 (List.map (Value.int .u8) v1.Data), .v (.bool v1.Ready), .v (.int .i64 v1.Base), .v (.int .i64 v1.Next), .v (.int .i64 v1.Wait), .v (.bool v1.Over)]) 0 ⟨op_store_take _ _ _ _ _ _ _ _ sz24 rfl rfl rfl (zl rfl) rfl rfl⟩ ?_
  refine yee [1,2,4] ?_
  refine ht_seq ?_
  obtain ⟨v2, hv2, h⟩ := bind_some h
  refine yx hn 2 ?_
  refine ys 1 ⟨lk call29 (ok_wherryref18_pieces _ _ hv2)⟩ ?_
  refine yee [1,2,4,5] ?_
  refine yyy hn 1 [1,2,4,5,6] ?_
  refine ht_seq ?_
  obtain ⟨v3, hv3, h⟩ := bind_some h
  obtain ⟨v4, hv4, h⟩ := bind_some h
  refine yx hn 2 ?_
  refine ys 1 ⟨lb hv3⟩ ?_
  refine yS (.v (.int .i64 v4)) 1 ⟨(Option.some.inj hv4) ▸ op_min _ _ _ _ rfl rfl⟩ ?_
  refine yee [1,2,4,5,6,7] ?_
  refine ht_seq ?_
  refine ht_joinS h (fun ((s36, s37, s38, s39, s40) : Bool × Int × Int × Int × (List T_Frame)) => [(2, .box 24 [.v (.int .i64 0), .v (.slice none 0 0), .v (.bool false), .v (.int .i64 0), .v (.int .i64 0), .v (.int .i64 0), .v (.bool false)]), (4, .box 24 [.v (.int .i64 v1.Number), .fl (.own 5) 1 (List.map (Value.int .u8) v1.Data), .v (.bool s36), .v (.int .i64 s37), .v (.int .i64 s38), .v (.int .i64 s39), .v (.bool v1.Over)]), (6, .fr (.own 26) false 5 (List.flatten (List.map T_Frame.ienc s40)))]) ?_ ?_
  ·rintro ⟨s36, s37, s38, s39, s40⟩ h
   refine pt_then ?_
   refine yxx hn 0 ?_
   refine yk [4] [] ?_
   refine yt (91, .agg [.v (.int .i64 v1.Number), .fl (.own 5) 1 (List.map (Value.int .u8) v1.Data), .v (.bool s36), .v (.int .i64 s37), .v (.int .i64 s38), .v (.int .i64 s39), .v (.bool v1.Over)]) 0 ⟨op_loadA_take _ _ _ _ underlying24 rfl sz24 rfl rfl⟩ ?_
   refine ym 0 ?_
   refine yk [91,2] [] ?_
   refine yt (2, .box 24 [.v (.int .i64 v1.Number), .fl (.own 5) 1 (List.map (Value.int .u8) v1.Data), .v (.bool s36), .v (.int .i64 s37), .v (.int .i64 s38), .v (.int .i64 s39), .v (.bool v1.Over)]) 0 ⟨op_store_take _ _ _ _ _ _ _ _ sz24 rfl rfl rfl (zl rfl) rfl rfl⟩ ?_
   refine ya 0 ?_
   refine yee [2,3] ?_
   refine ht_ret ?_
   obtain rfl := Option.some.inj h
   exact pt_ret hio rfl (.cellA _ _ _ _ underlying24 rfl sz24 (.tmp _ _ .nil)) rfl rfl
  ·intro u41 h hl42 hr43
   refine ht_block ?_
   refine yyy hn 3 [1,2,4,5,6,7,32] ?_
   refine ht_cond _ rfl (fun hb44 => ?_) (fun hb44 => ?_)
   ·have h := cond_t hb44 h
    refine ht_skip ?_
    refine pt_inb ?_
    refine pt_pick [1, 2, 4] (by kernel_rfl) (es' := [(_,_),(_,_),(_,_)]) rfl ?_
    refine pt_sub (fs := [(2, .box 24 [.v (.int .i64 0), .v (.slice none 0 0), .v (.bool false), .v (.int .i64 0), .v (.int .i64 0), .v (.int .i64 0), .v (.bool false)]), (4, .box 24 [.v (.int .i64 v1.Number), .fl (.own 5) 1 (List.map (Value.int .u8) v1.Data), .v (.bool v1.Ready), .v (.int .i64 v1.Base), .v (.int .i64 v1.Next), .v (.int .i64 v1.Wait), .v (.bool v1.Over)]), (6, .fr (.own 26) false 5 (List.flatten (List.map T_Frame.ienc [])))]) (.same _ (.same _ (.sub _ (sub_nil_fr 26 false 5) rfl .nil))) ?_
    exact hl42 _ (Option.some.inj h).symm
   ·have h := cond_f hb44 h
    refine ht_seq ?_
    refine ht_joinS h (fun (s45 : Bool) => [(1, .box 24 [.v (.int .i64 s.Number), .fl .shr 1 (List.map (Value.int .u8) s.Data), .v (.bool s.Ready), .v (.int .i64 s.Base), .v (.int .i64 s.Next), .v (.int .i64 s.Wait), .v (.bool s.Over)]), (2, .box 24 [.v (.int .i64 0), .v (.slice none 0 0), .v (.bool false), .v (.int .i64 0), .v (.int .i64 0), .v (.int .i64 0), .v (.bool false)]), (4, .box 24 [.v (.int .i64 v1.Number), .fl (.own 5) 1 (List.map (Value.int .u8) v1.Data), .v (.bool v1.Ready), .v (.int .i64 v1.Base), .v (.int .i64 v1.Next), .v (.int .i64 v1.Wait), .v (.bool v1.Over)]), (6, .v (.slice none 0 0)), (7, .v (.int .i64 v4)), (35, .v (.bool s45))]) ?_ ?_
    ·rintro s45 h
     refine pt_then ?_
     refine ht_cond _ rfl (fun hb49 => ?_) (fun hb49 => ?_)
     ·have h := cond_t hb49 h
      refine ht_seq ?_
      refine yyy hn 3 [1,2,4,6,47] ?_
      refine ht_cond _ rfl (fun hb50 => ?_) (fun hb50 => ?_)
      ·have h := cond_t hb50 h
       refine ht_seq ?_
       obtain ⟨v12, hv12, h⟩ := bind_some h
       refine yx hn 2 ?_
       refine ys 2 ⟨lb hv12⟩ ?_
       refine yee [2,4,6] ?_
       refine ht_exit ?_
       refine pt_x_then ?_
       refine pt_x_in ?_
       refine pt_sub (fs := [(2, .box 24 [.v (.int .i64 0), .v (.slice none 0 0), .v (.bool false), .v (.int .i64 0), .v (.int .i64 0), .v (.int .i64 0), .v (.bool false)]), (4, .box 24 [.v (.int .i64 v1.Number), .fl (.own 5) 1 (List.map (Value.int .u8) v1.Data), .v (.bool v1.Ready), .v (.int .i64 v1.Base), .v (.int .i64 v1.Next), .v (.int .i64 v12), .v (.bool v1.Over)]), (6, .fr (.own 26) false 5 (List.flatten (List.map T_Frame.ienc [])))]) (.same _ (.same _ (.sub _ (sub_nil_fr 26 false 5) rfl .nil))) ?_
       exact hl42 _ (Option.some.inj h).symm
      ·have h := cond_f hb50 h
       refine ht_skip ?_
       refine pt_then (ht_seq ?_)
       obtain ⟨v13, hv13, h⟩ := bind_some h
       refine yx hn 6 ?_
       refine yS (.agg [.v (.int .i64 1), .v (.int .i64 s.Number), .v (.int .i64 (s.Data.length : Int)), .v (.int .i64 0), .v (.slice none 0 0)]) 0 ⟨op_build _ _ _ _ [1, 1, 1, 1, 1] _ _ underlying26 zr26 (fs26 _ underlying26) (.copy _ (.copy _ (.copy _ Src.nil))) rfl rfl rfl⟩ ?_
       refine yS (.fr (.own 26) false 5 (List.flatten (List.map T_Frame.ienc ([(T_Frame.mk 1 s.Number (s.Data.length : Int) 0 [])])))) 0 ⟨op_build1_fr _ _ _ 5 (.agg #[.int .i64 0, .int .i64 0, .int .i64 0, .int .i64 0, .slice none 0 0]) false _ _ underlying31 sz26 zr26 rfl rfl (.cons (.v _) (.cons (.v _) (.cons (.v _) (.cons (.v _) (.cons (.nil 1) (.nil)))))) rfl (by decide) (by decide)⟩ ?_
       refine yS (.fr (.own 26) false 5 (List.flatten (List.map T_Frame.ienc v13))) 0 ⟨op_app_nil_fr _ _ _ _ el31 rfl rfl (gflat_len T_Frame.ilen _) hv13 (congrArg (fun l => List.flatten (List.map _ l)) (app_nil_eq hv13))⟩ ?_
       refine yw [6] 0 ?_
       refine ya 0 ?_
       refine yee [2,4,6] ?_
       refine yy hn 2 [2,4,6] ?_
       refine pt_inb ?_
       exact hl42 _ (Option.some.inj h).symm
     ·have h := cond_f hb49 h
      refine yyy hn 5 [1,2,4,6,7,62] ?_
      refine ht_cond _ rfl (fun hb51 => ?_) (fun hb51 => ?_)
      ·have h := cond_t hb51 h
       refine ht_seq ?_
       refine yyy hn 3 [1,2,4,6,7,8] ?_
       refine ht_sub (fs := [(1, .box 24 [.v (.int .i64 s.Number), .fl .shr 1 (List.map (Value.int .u8) s.Data), .v (.bool s.Ready), .v (.int .i64 s.Base), .v (.int .i64 s.Next), .v (.int .i64 s.Wait), .v (.bool s.Over)]), (2, .box 24 [.v (.int .i64 0), .v (.slice none 0 0), .v (.bool false), .v (.int .i64 0), .v (.int .i64 0), .v (.int .i64 0), .v (.bool false)]), (4, .box 24 [.v (.int .i64 v1.Number), .fl (.own 5) 1 (List.map (Value.int .u8) v1.Data), .v (.bool v1.Ready), .v (.int .i64 v1.Base), .v (.int .i64 v1.Next), .v (.int .i64 v1.Wait), .v (.bool v1.Over)]), (6, .fr (.own 26) false 5 (List.flatten (List.map T_Frame.ienc []))), (7, .v (.int .i64 v4)), (8, .v (.int .i64 s.Next))]) (.same _ (.same _ (.same _ (.sub _ (sub_nil_fr 26 false 5) rfl (.same _ (.same _ .nil)))))) ?_
       refine ht_loopS h (fun ((s56, s57) : (List T_Frame) × Int) => [(1, .box 24 [.v (.int .i64 s.Number), .fl .shr 1 (List.map (Value.int .u8) s.Data), .v (.bool s.Ready), .v (.int .i64 s.Base), .v (.int .i64 s.Next), .v (.int .i64 s.Wait), .v (.bool s.Over)]), (2, .box 24 [.v (.int .i64 0), .v (.slice none 0 0), .v (.bool false), .v (.int .i64 0), .v (.int .i64 0), .v (.int .i64 0), .v (.bool false)]), (4, .box 24 [.v (.int .i64 v1.Number), .fl (.own 5) 1 (List.map (Value.int .u8) v1.Data), .v (.bool v1.Ready), .v (.int .i64 v1.Base), .v (.int .i64 v1.Next), .v (.int .i64 v1.Wait), .v (.bool v1.Over)]), (6, .fr (.own 26) false 5 (List.flatten (List.map T_Frame.ienc s56))), (7, .v (.int .i64 v4)), (8, .v (.int .i64 s57))]) (fun (s59 : (List T_Frame)) => [(2, .box 24 [.v (.int .i64 0), .v (.slice none 0 0), .v (.bool false), .v (.int .i64 0), .v (.int .i64 0), .v (.int .i64 0), .v (.bool false)]), (4, .box 24 [.v (.int .i64 v1.Number), .fl (.own 5) 1 (List.map (Value.int .u8) v1.Data), .v (.bool v1.Ready), .v (.int .i64 v1.Base), .v (.int .i64 v1.Next), .v (.int .i64 v1.Wait), .v (.bool v1.Over)]), (6, .fr (.own 26) false 5 (List.flatten (List.map T_Frame.ienc s59))), (7, .v (.int .i64 v4))]) ?_ ?_
       ·rintro s59 h
        refine pt_then ?_
        refine yy hn 5 [2,4,6] ?_
        refine pt_inb ?_
        exact hl42 _ (Option.some.inj h).symm
       ·rintro u60 hl61 hr62 ⟨s56, s57⟩ rr65 h ho63
        refine ht_seq ?_
        refine yyy hn 3 [1,2,4,6,7,8,71] ?_
        refine ht_cond _ rfl (fun hb66 => ?_) (fun hb66 => ?_)
        ·have h := cond_t hb66 h
         refine ht_skip ?_
         refine pt_then (ht_seq ?_)
         refine ht_block ?_
         obtain ⟨v16, hv16, h⟩ := bind_some h
         obtain ⟨v17, hv17, h⟩ := bind_some h
         refine yx hn 0 ?_
         refine ym 2 ?_
         refine ys 0 ⟨lk call40 (ok_wherryref18_chunk _ _ _ hv16)⟩ ?_
         refine yk [77] [] ?_
         refine yt (78, .fr (.own 26) false 5 (List.flatten (List.map T_Frame.ienc [v16]))) 0 ⟨op_build1_fr_take _ _ _ 5 (.agg #[.int .i64 0, .int .i64 0, .int .i64 0, .int .i64 0, .slice none 0 0]) false _ _ underlying31 sz26 zr26 rfl (.cons (.v _) (.cons (.v _) (.cons (.v _) (.cons (.v _) (.cons (.ro _ _ rfl) (.nil)))))) rfl (by decide) (by decide)⟩ ?_
         refine yk [74] [78] ?_
         refine ytt (74, .any) (79, .fr (.own 26) false 5 (List.flatten (List.map T_Frame.ienc v17))) 0 ⟨op_app_fr _ _ _ _ _ el31 rfl rfl (gflat_len T_Frame.ilen _) (gflat_len T_Frame.ilen _) hv17 (gflat_app (app_eq hv17)) (by decide) (by decide)⟩ ?_
         refine ya 0 ?_
         refine ye [1,2,4,7,8,6] ?_
         refine pt_inb ?_
         refine pt_then ?_
         obtain ⟨v18, hv18, h⟩ := bind_some h
         refine yx hn 1 ?_
         refine ys 0 ⟨lb hv18⟩ ?_
         refine yw [8] 1 ?_
         refine ye [1,2,4,7,6,8] ?_
         refine pt_pick [0, 1, 2, 4, 3, 5] (by kernel_rfl) (es' := [(_,_),(_,_),(_,_),(_,_),(_,_),(_,_)]) rfl ?_
         exact pt_next _ (Option.some.inj h).symm rfl
        ·have h := cond_f hb66 h
         refine ht_exit ?_
         refine pt_x_then ?_
         refine pt_x_then ?_
         refine pt_x_in ?_
         refine pt_pick [1, 2, 3, 4] (by kernel_rfl) (es' := [(_,_),(_,_),(_,_),(_,_)]) rfl ?_
         exact hl61 _ (ho63 _ (Option.some.inj h).symm).symm
      ·have h := cond_f hb51 h
       refine yyy hn 4 [1,2,4,6,83] ?_
       refine ht_cond _ rfl (fun hb67 => ?_) (fun hb67 => ?_)
       ·have h := cond_t hb67 h
        obtain ⟨v34, hv34, h⟩ := bind_some h
        refine yx hn 2 ?_
        refine ys 2 ⟨lb hv34⟩ ?_
        refine ye [2,4,6] ?_
        refine pt_inb ?_
        refine pt_sub (fs := [(2, .box 24 [.v (.int .i64 0), .v (.slice none 0 0), .v (.bool false), .v (.int .i64 0), .v (.int .i64 0), .v (.int .i64 0), .v (.bool false)]), (4, .box 24 [.v (.int .i64 v1.Number), .fl (.own 5) 1 (List.map (Value.int .u8) v1.Data), .v (.bool v1.Ready), .v (.int .i64 v1.Base), .v (.int .i64 v1.Next), .v (.int .i64 v34), .v (.bool v1.Over)]), (6, .fr (.own 26) false 5 (List.flatten (List.map T_Frame.ienc [])))]) (.same _ (.same _ (.sub _ (sub_nil_fr 26 false 5) rfl .nil))) ?_
        exact hl42 _ (Option.some.inj h).symm
       ·have h := cond_f hb67 h
        refine ht_seq ?_
        obtain ⟨v35, hv35, h⟩ := bind_some h
        refine yx hn 6 ?_
        refine yS (.agg [.v (.int .i64 1), .v (.int .i64 s.Number), .v (.int .i64 (s.Data.length : Int)), .v (.int .i64 0), .v (.slice none 0 0)]) 0 ⟨op_build _ _ _ _ [1, 1, 1, 1, 1] _ _ underlying26 zr26 (fs26 _ underlying26) (.copy _ (.copy _ (.copy _ Src.nil))) rfl rfl rfl⟩ ?_
        refine yS (.fr (.own 26) false 5 (List.flatten (List.map T_Frame.ienc ([(T_Frame.mk 1 s.Number (s.Data.length : Int) 0 [])])))) 0 ⟨op_build1_fr _ _ _ 5 (.agg #[.int .i64 0, .int .i64 0, .int .i64 0, .int .i64 0, .slice none 0 0]) false _ _ underlying31 sz26 zr26 rfl rfl (.cons (.v _) (.cons (.v _) (.cons (.v _) (.cons (.v _) (.cons (.nil 1) (.nil)))))) rfl (by decide) (by decide)⟩ ?_
        refine yS (.fr (.own 26) false 5 (List.flatten (List.map T_Frame.ienc v35))) 0 ⟨op_app_nil_fr _ _ _ _ el31 rfl rfl (gflat_len T_Frame.ilen _) hv35 (congrArg (fun l => List.flatten (List.map _ l)) (app_nil_eq hv35))⟩ ?_
        refine yw [6] 0 ?_
        refine ya 0 ?_
        refine yee [2,4,6] ?_
        refine yy hn 8 [2,4,6] ?_
        refine pt_inb ?_
        exact hl42 _ (Option.some.inj h).symm
    ·intro u46 h hl47 hr48
     refine cond_some h (fun hg8_3 h => ?_) (fun hg8_3 h => ?_)
     ·refine yx hn 4 ?_
      refine yd hg8_3 6 ?_
      refine ye [1,2,4,6,7,35] ?_
      exact hl47 _ (Option.some.inj h).symm
     ·refine yx hn 4 ?_
      refine yd hg8_3 6 ?_
      refine ye [1,2,4,6,7,35] ?_
      exact hl47 _ (Option.some.inj h).symm
theorem ok_wherrykeep_Frame (a : T_Frame) (b : T_Frame) (r : Bool) (h : Sh.wherrykeep_Frame a b = some r) : FnOK Try.prog 27 [.agg [.v (.int .i64 a.Kind), .v (.int .i64 a.Number), .v (.int .i64 a.Offset), .v (.int .i64 a.Seq), .fl .shr 1 (List.map (Value.int .u8) a.Data)], .agg [.v (.int .i64 b.Kind), .v (.int .i64 b.Number), .v (.int .i64 b.Offset), .v (.int .i64 b.Seq), .fl .shr 1 (List.map (Value.int .u8) b.Data)]] (.v (.bool r)) := by
  unfold Sh.wherrykeep_Frame at h
  refine yO 38 func27 fun g0 hn hio => ?_
  refine yyy hn 3 [2,3] ?_
  refine ht_seq ?_
  refine ht_joinS h (fun (s2 : Bool) => [(4, .v (.bool s2))]) ?_ ?_
  ·rintro s2 h
   refine pt_then (ht_ret ?_)
   obtain rfl := Option.some.inj h
   exact pt_ret hio rfl (.tmp _ _ .nil) rfl rfl
  ·intro u3 h hl4 hr5
   refine cond_some h (fun hg1_5 h => ?_) (fun hg1_5 h => ?_)
   ·refine cond_some h (fun hg1_12 h => ?_) (fun hg1_12 h => ?_)
    ·refine cond_some h (fun hg1_19 h => ?_) (fun hg1_19 h => ?_)
     ·refine cond_some h (fun hg1_26 h => ?_) (fun hg1_26 h => ?_)
      ·obtain ⟨v1, hv1, h⟩ := bind_some h
       refine yx hn 6 ?_
       refine yd hg1_5 7 ?_
       refine yd hg1_12 7 ?_
       refine yd hg1_19 7 ?_
       refine yd hg1_26 4 ?_
       refine ys 2 ⟨lk call28 (ok_wherrykeep_Bytes _ _ _ hv1)⟩ ?_
       refine ye [4] ?_
       exact hl4 _ (Option.some.inj h).symm
      ·refine yx hn 6 ?_
       refine yd hg1_5 7 ?_
       refine yd hg1_12 7 ?_
       refine yd hg1_19 7 ?_
       refine yd hg1_26 7 ?_
       refine ye [4] ?_
       exact hl4 _ (Option.some.inj h).symm
     ·refine yx hn 6 ?_
      refine yd hg1_5 7 ?_
      refine yd hg1_12 7 ?_
      refine yd hg1_19 14 ?_
      refine ye [4] ?_
      exact hl4 _ (Option.some.inj h).symm
    ·refine yx hn 6 ?_
     refine yd hg1_5 7 ?_
     refine yd hg1_12 21 ?_
     refine ye [4] ?_
     exact hl4 _ (Option.some.inj h).symm
   ·refine yx hn 6 ?_
    refine yd hg1_5 28 ?_
    refine ye [4] ?_
    exact hl4 _ (Option.some.inj h).symm
theorem ok_wherrykeep_Frames (a : (List T_Frame)) (b : (List T_Frame)) (r : Bool) (h : Sh.wherrykeep_Frames a b = some r) : FnOK Try.prog 23 [.fr .shr true 5 (List.flatten (List.map T_Frame.ienc a)), .fr .shr true 5 (List.flatten (List.map T_Frame.ienc b))] (.v (.bool r)) := by
  unfold Sh.wherrykeep_Frames at h
  refine yO 27 func23 fun g0 hn hio => ?_
  refine yyy hn 1 [0,1] ?_
  refine ht_seq ?_
  refine yyy hn 5 [0,1,10] ?_
  refine ht_cond _ rfl (fun hb1 => ?_) (fun hb1 => ?_)
  ·have h := cond_t hb1 h
   refine yyy hn 1 [4] ?_
   refine ht_ret ?_
   refine pt_r_then ?_
   obtain rfl := Option.some.inj h
   exact pt_ret hio rfl (.tmp _ _ .nil) rfl rfl
  ·have h := cond_f hb1 h
   refine ht_skip ?_
   refine pt_then (ht_seq ?_)
   refine yyy hn 1 [0,1,5] ?_
   refine ht_loopS h (fun (s13 : Int) => [(0, .fr .shr true 5 (List.flatten (List.map T_Frame.ienc a))), (1, .fr .shr true 5 (List.flatten (List.map T_Frame.ienc b))), (5, .v (.int .i64 s13))]) (fun (() : Unit) => []) ?_ ?_
   ·rintro ⟨⟩ h
    refine pt_then ?_
    refine yyy hn 1 [4] ?_
    refine ht_ret ?_
    obtain rfl := Option.some.inj h
    exact pt_ret hio rfl (.tmp _ _ .nil) rfl rfl
   ·rintro u16 hl17 hr18 s13 rr21 h ho19
    refine ht_seq ?_
    refine yyy hn 4 [0,1,5,14] ?_
    refine ht_cond _ rfl (fun hb22 => ?_) (fun hb22 => ?_)
    ·have h := cond_t hb22 h
     refine ht_skip ?_
     refine pt_then (ht_seq ?_)
     refine ht_block ?_
     refine ht_seq ?_
     obtain ⟨v3, hv3, h⟩ := bind_some h
     obtain ⟨v4, hv4, h⟩ := bind_some h
     obtain ⟨v5, hv5, h⟩ := bind_some h
     obtain ⟨v6, hv6, h⟩ := bind_some h
     obtain ⟨v7, hv7, h⟩ := bind_some h
     refine wb [[0],[5]] ?_
     refine wN [17,18] ?_
     refine wo [] ⟨lI hv3⟩ ?_
     refine wN [19,17] ?_
     refine wS (.agg [.v (.int .i64 v4.Kind), .v (.int .i64 v4.Number), .v (.int .i64 v4.Offset), .v (.int .i64 v4.Seq), .fl .shr 1 (List.map (Value.int .u8) v4.Data)]) [[1],[5]] ⟨op_loadA_fr _ _ _ _ _ _ _ _ underlying26 rfl sz26 rfl rfl (gflat_get T_Frame.ilen hv4) (.cons (.v _) (.cons (.v _) (.cons (.v _) (.cons (.v _) (.cons (.fl _ _ rfl) (.nil)))))) rfl (by decide)⟩ ?_
     refine wN [21,22] ?_
     refine wo [] ⟨lI hv5⟩ ?_
     refine wN [23,21] ?_
     refine wS (.agg [.v (.int .i64 v6.Kind), .v (.int .i64 v6.Number), .v (.int .i64 v6.Offset), .v (.int .i64 v6.Seq), .fl .shr 1 (List.map (Value.int .u8) v6.Data)]) [] ⟨op_loadA_fr _ _ _ _ _ _ _ _ underlying26 rfl sz26 rfl rfl (gflat_get T_Frame.ilen hv6) (.cons (.v _) (.cons (.v _) (.cons (.v _) (.cons (.v _) (.cons (.fl _ _ rfl) (.nil)))))) rfl (by decide)⟩ ?_
     refine wN [20,24] ?_
     refine wo [[25]] ⟨lk call27 (ok_wherrykeep_Frame _ _ _ hv7)⟩ ?_
     refine wee hn [0,1,5,26] ?_
     refine ht_cond _ rfl (fun hb23 => ?_) (fun hb23 => ?_)
     ·have h := cond_t hb23 h
      refine yyy hn 1 [4] ?_
      refine ht_ret ?_
      refine pt_r_in ?_
      refine pt_r_then ?_
      refine pt_r_then ?_
      refine pt_r_in ?_
      refine pt_r_then ?_
      have h := hr18 _ (ho19 _ (Option.some.inj h).symm).symm
      obtain rfl := Option.some.inj h
      exact pt_ret hio rfl (.tmp _ _ .nil) rfl rfl
     ·have h := cond_f hb23 h
      refine ht_skip ?_
      refine pt_inb ?_
      refine pt_then ?_
      obtain ⟨v9, hv9, h⟩ := bind_some h
      refine yx hn 1 ?_
      refine ys 0 ⟨lb hv9⟩ ?_
      refine yw [5] 1 ?_
      refine ye [0,1,5] ?_
      exact pt_next _ (Option.some.inj h).symm rfl
    ·have h := cond_f hb22 h
     refine ht_exit ?_
     refine pt_x_then ?_
     refine pt_x_then ?_
     refine pt_x_in ?_
     refine pt_pick [] (by kernel_rfl) (es' := []) rfl ?_
     exact hl17 _ (ho19 _ (Option.some.inj h).symm).symm
theorem ok_wherryref18_Frame (f : T_Frame) (r : Bool) (h : Sh.wherryref18_Frame f = some r) : FnOK Try.prog 24 [.agg [.v (.int .i64 f.Kind), .v (.int .i64 f.Number), .v (.int .i64 f.Offset), .v (.int .i64 f.Seq), .fl .shr 1 (List.map (Value.int .u8) f.Data)]] (.v (.bool r)) := by
  unfold Sh.wherryref18_Frame at h
  refine yO 74 func24 fun g0 hn hio => ?_
  refine yyy hn 2 [1] ?_
  refine yxx hn 4 ?_
  refine yS (.agg [.v (.int .i64 f.Kind), .v (.int .i64 f.Number), .v (.int .i64 0), .v (.int .i64 0), .v (.slice none 0 0)]) 0 ⟨op_build _ _ _ _ [1, 1, 1, 1, 1] _ _ underlying26 zr26 (fs26 _ underlying26) (.copy _ (.copy _ Src.nil)) rfl rfl rfl⟩ ?_
  refine yS (.box 26 [.v (.int .i64 0), .v (.int .i64 0), .v (.int .i64 0), .v (.int .i64 0), .v (.slice none 0 0)]) 1 ⟨oA (op_alloc _ _ zr26)⟩ ?_
  refine yee [1,3] ?_
  refine ht_seq ?_
  obtain ⟨v1, hv1, h⟩ := bind_some h
  refine yx hn 2 ?_
  refine ys 1 ⟨lk call30 (ok_wherryref18_in _ _ _ _ hv1)⟩ ?_
  refine yee [1,3,4] ?_
  refine ht_seq ?_
  refine ht_joinS h (fun ((s58, s59, s60, s61) : Int × Int × (List Int) × Bool) => [(1, .box 26 [.v (.int .i64 f.Kind), .v (.int .i64 f.Number), .v (.int .i64 f.Offset), .v (.int .i64 f.Seq), .fl .shr 1 (List.map (Value.int .u8) f.Data)]), (3, .box 26 [.v (.int .i64 f.Kind), .v (.int .i64 f.Number), .v (.int .i64 s58), .v (.int .i64 s59), .fl .shr 1 (List.map (Value.int .u8) s60)]), (4, .v (.bool s61))]) ?_ ?_
  ·rintro ⟨s58, s59, s60, s61⟩ h
   refine pt_then (ht_seq ?_)
   refine ht_joinS h (fun (s117 : Bool) => [(2, .v (.bool s117))]) ?_ ?_
   ·rintro s117 h
    refine pt_then (ht_ret ?_)
    obtain rfl := Option.some.inj h
    exact pt_ret hio rfl (.tmp _ _ .nil) rfl rfl
   ·intro u118 h hl119 hr120
    refine cond_some h (fun hg16_1 h => ?_) (fun hg16_1 h => ?_)
    ·obtain ⟨v116, hv116, h⟩ := bind_some h
     refine yx hn 2 ?_
     refine yd hg16_1 2 ?_
     refine ys 2 ⟨lk call27 (ok_wherrykeep_Frame _ _ _ hv116)⟩ ?_
     refine ye [2] ?_
     exact hl119 _ (Option.some.inj h).symm
    ·refine yx hn 2 ?_
     refine yd hg16_1 5 ?_
     refine ye [2] ?_
     exact hl119 _ (Option.some.inj h).symm
  ·intro u62 h hl63 hr64
   refine yyy hn 2 [1,3,4,14] ?_
   refine ht_joinS h (fun ((s87, s88, s89, s90) : Int × Int × (List Int) × Bool) => [(1, .box 26 [.v (.int .i64 f.Kind), .v (.int .i64 f.Number), .v (.int .i64 f.Offset), .v (.int .i64 f.Seq), .fl .shr 1 (List.map (Value.int .u8) f.Data)]), (3, .box 26 [.v (.int .i64 f.Kind), .v (.int .i64 f.Number), .v (.int .i64 s87), .v (.int .i64 s88), .fl .shr 1 (List.map (Value.int .u8) s89)]), (4, .v (.bool s90))]) ?_ ?_
   ·rintro ⟨s87, s88, s89, s90⟩ h
    exact hl63 _ (Option.some.inj h).symm
   ·intro u91 h hl92 hr93
    refine ht_block ?_
    refine ht_seq ?_
    refine ht_joinS h (fun (s95 : Bool) => [(1, .box 26 [.v (.int .i64 f.Kind), .v (.int .i64 f.Number), .v (.int .i64 f.Offset), .v (.int .i64 f.Seq), .fl .shr 1 (List.map (Value.int .u8) f.Data)]), (3, .box 26 [.v (.int .i64 f.Kind), .v (.int .i64 f.Number), .v (.int .i64 0), .v (.int .i64 0), .v (.slice none 0 0)]), (4, .v (.bool v1)), (14, .v (.int .i64 f.Kind)), (15, .v (.bool s95))]) ?_ ?_
    ·rintro s95 h
     refine pt_then ?_
     refine ht_cond _ rfl (fun hb100 => ?_) (fun hb100 => ?_)
     ·have h := cond_t hb100 h
      refine yyy hn 4 [1,3,4] ?_
      refine ht_joinS h (fun (s101 : Bool) => [(1, .box 26 [.v (.int .i64 f.Kind), .v (.int .i64 f.Number), .v (.int .i64 f.Offset), .v (.int .i64 f.Seq), .fl .shr 1 (List.map (Value.int .u8) f.Data)]), (3, .box 26 [.v (.int .i64 f.Kind), .v (.int .i64 f.Number), .v (.int .i64 f.Offset), .v (.int .i64 0), .v (.slice none 0 0)]), (4, .v (.bool s101))]) ?_ ?_
      ·rintro s101 h
       refine pt_inb ?_
       refine pt_sub (fs := [(1, .box 26 [.v (.int .i64 f.Kind), .v (.int .i64 f.Number), .v (.int .i64 f.Offset), .v (.int .i64 f.Seq), .fl .shr 1 (List.map (Value.int .u8) f.Data)]), (3, .box 26 [.v (.int .i64 f.Kind), .v (.int .i64 f.Number), .v (.int .i64 f.Offset), .v (.int .i64 0), .fl .shr 1 (List.map (Value.int .u8) [])]), (4, .v (.bool s101))]) (.same _ (.box _ _ (subs_cons (sub_refl _) (subs_cons (sub_refl _) (subs_cons (sub_refl _) (subs_cons (sub_refl _) (subs_cons (sub_nil_shr 1) (subs_nil)))))) rfl (.same _ .nil))) ?_
       exact hl92 _ (Option.some.inj h).symm
      ·intro u102 h hl103 hr104
       refine cond_some h (fun hg8_1 h => ?_) (fun hg8_1 h => ?_)
       ·obtain ⟨v9, hv9, h⟩ := bind_some h
        refine yx hn 2 ?_
        refine yd hg8_1 2 ?_
        refine ys 1 ⟨lk call30 (ok_wherryref18_in _ _ _ _ hv9)⟩ ?_
        refine yw [4] 1 ?_
        refine ye [1,3,4] ?_
        exact hl103 _ (Option.some.inj h).symm
       ·refine yx hn 2 ?_
        refine yd hg8_1 4 ?_
        refine yw [4] 1 ?_
        refine ye [1,3,4] ?_
        exact hl103 _ (Option.some.inj h).symm
     ·have h := cond_f hb100 h
      refine yyy hn 2 [1,3,4,14,27] ?_
      refine ht_cond _ rfl (fun hb105 => ?_) (fun hb105 => ?_)
      ·have h := cond_t hb105 h
       refine ht_seq ?_
       refine wb [[1],[29,1],[1],[31,1],[1],[33,1],[3]] ?_
       refine wK [3] [35,30] ?_
       refine wt [(3, .box 26 [.v (.int .i64 f.Kind), .v (.int .i64 f.Number), .v (.int .i64 f.Offset), .v (.int .i64 0), .v (.slice none 0 0)])] [[3]] ⟨op_store _ _ _ _ _ _ _ _ sz3 rfl rfl rfl rfl (zl rfl) rfl rfl⟩ ?_
       refine wK [3] [36,32] ?_
       refine wt [(3, .box 26 [.v (.int .i64 f.Kind), .v (.int .i64 f.Number), .v (.int .i64 f.Offset), .v (.int .i64 f.Seq), .v (.slice none 0 0)])] [[3]] ⟨op_store _ _ _ _ _ _ _ _ sz3 rfl rfl rfl rfl (zl rfl) rfl rfl⟩ ?_
       refine wK [3] [37,34] ?_
       refine wt [(3, .box 26 [.v (.int .i64 f.Kind), .v (.int .i64 f.Number), .v (.int .i64 f.Offset), .v (.int .i64 f.Seq), .fl .shr 1 (List.map (Value.int .u8) f.Data)])] [] ⟨op_store _ _ _ _ _ _ _ _ sz22 rfl rfl rfl rfl (zl rfl) rfl rfl⟩ ?_
       refine wee hn [1,3,4] ?_
       refine ht_joinS h (fun (s106 : Bool) => [(1, .box 26 [.v (.int .i64 f.Kind), .v (.int .i64 f.Number), .v (.int .i64 f.Offset), .v (.int .i64 f.Seq), .fl .shr 1 (List.map (Value.int .u8) f.Data)]), (3, .box 26 [.v (.int .i64 f.Kind), .v (.int .i64 f.Number), .v (.int .i64 f.Offset), .v (.int .i64 f.Seq), .fl .shr 1 (List.map (Value.int .u8) f.Data)]), (4, .v (.bool s106))]) ?_ ?_
       ·rintro s106 h
        refine pt_inb ?_
        exact hl92 _ (Option.some.inj h).symm
       ·intro u107 h hl108 hr109
        refine cond_some h (fun hg11_1 h => ?_) (fun hg11_1 h => ?_)
        ·obtain ⟨v15, hv15, h⟩ := bind_some h
         refine cond_some h (fun hg11_6 h => ?_) (fun hg11_6 h => ?_)
         ·obtain ⟨v16, hv16, h⟩ := bind_some h
          refine cond_some h (fun hg11_11 h => ?_) (fun hg11_11 h => ?_)
          ·obtain ⟨v17, hv17, h⟩ := bind_some h
           refine yx hn 2 ?_
           refine yd hg11_1 2 ?_
           refine ys 2 ⟨lk call30 (ok_wherryref18_in _ _ _ _ hv15)⟩ ?_
           refine yd hg11_6 2 ?_
           refine ys 2 ⟨lk call30 (ok_wherryref18_in _ _ _ _ hv16)⟩ ?_
           refine yd hg11_11 3 ?_
           refine ys 1 ⟨lk call30 (ok_wherryref18_in _ _ _ _ hv17)⟩ ?_
           refine yw [4] 1 ?_
           refine ye [1,3,4] ?_
           exact hl108 _ (Option.some.inj h).symm
          ·refine yx hn 2 ?_
           refine yd hg11_1 2 ?_
           refine ys 2 ⟨lk call30 (ok_wherryref18_in _ _ _ _ hv15)⟩ ?_
           refine yd hg11_6 2 ?_
           refine ys 2 ⟨lk call30 (ok_wherryref18_in _ _ _ _ hv16)⟩ ?_
           refine yd hg11_11 5 ?_
           refine yw [4] 1 ?_
           refine ye [1,3,4] ?_
           exact hl108 _ (Option.some.inj h).symm
         ·refine yx hn 2 ?_
          refine yd hg11_1 2 ?_
          refine ys 2 ⟨lk call30 (ok_wherryref18_in _ _ _ _ hv15)⟩ ?_
          refine yd hg11_6 10 ?_
          refine yw [4] 1 ?_
          refine ye [1,3,4] ?_
          exact hl108 _ (Option.some.inj h).symm
        ·refine yx hn 2 ?_
         refine yd hg11_1 15 ?_
         refine yw [4] 1 ?_
         refine ye [1,3,4] ?_
         exact hl108 _ (Option.some.inj h).symm
      ·have h := cond_f hb105 h
       refine yyy hn 2 [1,3,4,14,55] ?_
       refine ht_cond _ rfl (fun hb110 => ?_) (fun hb110 => ?_)
       ·have h := cond_t hb110 h
        refine yyy hn 4 [1,3,4] ?_
        refine ht_joinS h (fun (s111 : Bool) => [(1, .box 26 [.v (.int .i64 f.Kind), .v (.int .i64 f.Number), .v (.int .i64 f.Offset), .v (.int .i64 f.Seq), .fl .shr 1 (List.map (Value.int .u8) f.Data)]), (3, .box 26 [.v (.int .i64 f.Kind), .v (.int .i64 f.Number), .v (.int .i64 0), .v (.int .i64 f.Seq), .v (.slice none 0 0)]), (4, .v (.bool s111))]) ?_ ?_
        ·rintro s111 h
         refine pt_inb ?_
         refine pt_sub (fs := [(1, .box 26 [.v (.int .i64 f.Kind), .v (.int .i64 f.Number), .v (.int .i64 f.Offset), .v (.int .i64 f.Seq), .fl .shr 1 (List.map (Value.int .u8) f.Data)]), (3, .box 26 [.v (.int .i64 f.Kind), .v (.int .i64 f.Number), .v (.int .i64 0), .v (.int .i64 f.Seq), .fl .shr 1 (List.map (Value.int .u8) [])]), (4, .v (.bool s111))]) (.same _ (.box _ _ (subs_cons (sub_refl _) (subs_cons (sub_refl _) (subs_cons (sub_refl _) (subs_cons (sub_refl _) (subs_cons (sub_nil_shr 1) (subs_nil)))))) rfl (.same _ .nil))) ?_
         exact hl92 _ (Option.some.inj h).symm
        ·intro u112 h hl113 hr114
         refine cond_some h (fun hg14_1 h => ?_) (fun hg14_1 h => ?_)
         ·obtain ⟨v23, hv23, h⟩ := bind_some h
          refine yx hn 2 ?_
          refine yd hg14_1 2 ?_
          refine ys 1 ⟨lk call30 (ok_wherryref18_in _ _ _ _ hv23)⟩ ?_
          refine yw [4] 1 ?_
          refine ye [1,3,4] ?_
          exact hl113 _ (Option.some.inj h).symm
         ·refine yx hn 2 ?_
          refine yd hg14_1 4 ?_
          refine yw [4] 1 ?_
          refine ye [1,3,4] ?_
          exact hl113 _ (Option.some.inj h).symm
       ·have h := cond_f hb110 h
        refine yyy hn 2 [1,3,4,66] ?_
        refine ht_cond _ rfl (fun hb115 => ?_) (fun hb115 => ?_)
        ·have h := cond_t hb115 h
         refine ht_skip ?_
         refine pt_inb ?_
         refine pt_pick [0, 1, 2] (by kernel_rfl) (es' := [(_,_),(_,_),(_,_)]) rfl ?_
         refine pt_sub (fs := [(1, .box 26 [.v (.int .i64 f.Kind), .v (.int .i64 f.Number), .v (.int .i64 f.Offset), .v (.int .i64 f.Seq), .fl .shr 1 (List.map (Value.int .u8) f.Data)]), (3, .box 26 [.v (.int .i64 f.Kind), .v (.int .i64 f.Number), .v (.int .i64 0), .v (.int .i64 0), .fl .shr 1 (List.map (Value.int .u8) [])]), (4, .v (.bool v1))]) (.same _ (.box _ _ (subs_cons (sub_refl _) (subs_cons (sub_refl _) (subs_cons (sub_refl _) (subs_cons (sub_refl _) (subs_cons (sub_nil_shr 1) (subs_nil)))))) rfl (.same _ .nil))) ?_
         exact hl92 _ (Option.some.inj h).symm
        ·have h := cond_f hb115 h
         refine yx hn 0 ?_
         refine yw [4] 1 ?_
         refine ye [1,3,4] ?_
         refine pt_inb ?_
         refine pt_sub (fs := [(1, .box 26 [.v (.int .i64 f.Kind), .v (.int .i64 f.Number), .v (.int .i64 f.Offset), .v (.int .i64 f.Seq), .fl .shr 1 (List.map (Value.int .u8) f.Data)]), (3, .box 26 [.v (.int .i64 f.Kind), .v (.int .i64 f.Number), .v (.int .i64 0), .v (.int .i64 0), .fl .shr 1 (List.map (Value.int .u8) [])]), (4, .v (.bool false))]) (.same _ (.box _ _ (subs_cons (sub_refl _) (subs_cons (sub_refl _) (subs_cons (sub_refl _) (subs_cons (sub_refl _) (subs_cons (sub_nil_shr 1) (subs_nil)))))) rfl (.same _ .nil))) ?_
         exact hl92 _ (Option.some.inj h).symm
    ·intro u96 h hl97 hr98
     refine yyy hn 2 [1,3,4,14,15] ?_
     refine ht_cond _ rfl (fun hb99 => ?_) (fun hb99 => ?_)
     ·have h := cond_t hb99 h
      refine ht_skip ?_
      exact hl97 _ (Option.some.inj h).symm
     ·have h := cond_f hb99 h
      refine yx hn 1 ?_
      refine yw [15] 1 ?_
      refine ye [1,3,4,14,15] ?_
      exact hl97 _ (Option.some.inj h).symm
theorem ok_wherryref18_Hear (s : T_Send) (f : T_Frame) (r : (T_Send × Int)) (h : Sh.wherryref18_Hear s f = some r) : FnOK Try.prog 25 [.agg [.v (.int .i64 s.Number), .fl .shr 1 (List.map (Value.int .u8) s.Data), .v (.bool s.Ready), .v (.int .i64 s.Base), .v (.int .i64 s.Next), .v (.int .i64 s.Wait), .v (.bool s.Over)], .agg [.v (.int .i64 f.Kind), .v (.int .i64 f.Number), .v (.int .i64 f.Offset), .v (.int .i64 f.Seq), .fl .shr 1 (List.map (Value.int .u8) f.Data)]] (.tup [.agg [.v (.int .i64 r.1.Number), .fl (.own 5) 1 (List.map (Value.int .u8) r.1.Data), .v (.bool r.1.Ready), .v (.int .i64 r.1.Base), .v (.int .i64 r.1.Next), .v (.int .i64 r.1.Wait), .v (.bool r.1.Over)], .v (.int .i64 r.2)]) := by
  unfold Sh.wherryref18_Hear at h
  refine yO 87 func25 fun g0 hn hio => ?_
  refine yxx hn 2 ?_
  refine yS (.box 24 [.v (.int .i64 0), .v (.slice none 0 0), .v (.bool false), .v (.int .i64 0), .v (.int .i64 0), .v (.int .i64 0), .v (.bool false)]) 1 ⟨oA (op_alloc _ _ zr24)⟩ ?_
  refine yee [2,3,4] ?_
  refine ht_seq ?_
  obtain ⟨v1, hv1, h⟩ := bind_some h
  refine yx hn 1 ?_
  refine ys 0 ⟨lk call10 (ok_wherrykeep_TwinSend _ _ hv1)⟩ ?_
  refine yS (.box 24 [.v (.int .i64 0), .v (.slice none 0 0), .v (.bool false), .v (.int .i64 0), .v (.int .i64 0), .v (.int .i64 0), .v (.bool false)]) 0 ⟨oA (op_alloc _ _ zr24)⟩ ?_
  refine yk [10,6] [] ?_
  refine yt (6, .box 24 [.v (.int .i64 v1.Number), .fl (.own 5) 1 (List.map (Value.int .u8) v1.Data), .v (.bool v1.Ready), .v (.int .i64 v1.Base), .v (.int .i64 v1.Next), .v (.int .i64 v1.Wait), .v (.bool v1.Over)]) 0 ⟨op_store_take _ _ _ _ _ _ _ _ sz24 rfl rfl rfl (zl rfl) rfl rfl⟩ ?_
  refine yee [2,3,4,6] ?_
  refine ht_seq ?_
  refine ht_seq ?_
  refine ht_joinS h (fun (s2 : Bool) => [(2, .box 24 [.v (.int .i64 s.Number), .fl .shr 1 (List.map (Value.int .u8) s.Data), .v (.bool s.Ready), .v (.int .i64 s.Base), .v (.int .i64 s.Next), .v (.int .i64 s.Wait), .v (.bool s.Over)]), (3, .box 26 [.v (.int .i64 f.Kind), .v (.int .i64 f.Number), .v (.int .i64 f.Offset), .v (.int .i64 f.Seq), .fl .shr 1 (List.map (Value.int .u8) f.Data)]), (4, .box 24 [.v (.int .i64 0), .v (.slice none 0 0), .v (.bool false), .v (.int .i64 0), .v (.int .i64 0), .v (.int .i64 0), .v (.bool false)]), (6, .box 24 [.v (.int .i64 v1.Number), .fl (.own 5) 1 (List.map (Value.int .u8) v1.Data), .v (.bool v1.Ready), .v (.int .i64 v1.Base), .v (.int .i64 v1.Next), .v (.int .i64 v1.Wait), .v (.bool v1.Over)]), (19, .v (.bool s2))]) ?_ ?_
  ·rintro s2 h
   refine pt_then ?_
   refine ht_cond _ rfl (fun hb6 => ?_) (fun hb6 => ?_)
   ·have h := cond_t hb6 h
    refine yxx hn 0 ?_
    refine yS (.agg [.v (.int .i64 0), .v (.slice none 0 0), .v (.bool false), .v (.int .i64 0), .v (.int .i64 0), .v (.int .i64 0), .v (.bool false)]) 0 ⟨op_build _ _ _ _ [1, 1, 1, 1, 1, 1, 1] _ _ underlying24 zr24 (fs24 _ underlying24) Src.nil rfl rfl rfl⟩ ?_
    refine yk [20,4] [] ?_
    refine yt (4, .box 24 [.v (.int .i64 0), .v (.slice none 0 0), .v (.bool false), .v (.int .i64 0), .v (.int .i64 0), .v (.int .i64 0), .v (.bool false)]) 1 ⟨op_store_self _ _ _ 20 4 7 sz24 rfl rfl rfl rfl rfl (.eq _ (.eq _ (.eq _ (.eq _ (.eq _ (.eq _ (.eq _ (.nil _)))))))) rfl⟩ ?_
    refine yee [4,5] ?_
    refine ht_ret ?_
    refine pt_sub (fs := [(4, .box 24 [.v (.int .i64 0), .fl (.own 5) 1 (List.map (Value.int .u8) []), .v (.bool false), .v (.int .i64 0), .v (.int .i64 0), .v (.int .i64 0), .v (.bool false)]), (5, .v (.int .i64 11))]) (.box _ _ (subs_cons (sub_refl _) (subs_cons (sub_nil 5 1) (subs_cons (sub_refl _) (subs_cons (sub_refl _) (subs_cons (sub_refl _) (subs_cons (sub_refl _) (subs_cons (sub_refl _) (subs_nil)))))))) rfl (.same _ .nil)) ?_
    refine pt_r_then ?_
    obtain rfl := Option.some.inj h
    exact pt_ret hio rfl (.cellA _ _ _ _ underlying24 rfl sz24 (.tmp _ _ .nil)) rfl rfl
   ·have h := cond_f hb6 h
    refine ht_skip ?_
    refine pt_then (ht_seq ?_)
    refine ht_joinS h (fun (() : Unit) => [(4, .box 24 [.v (.int .i64 0), .v (.slice none 0 0), .v (.bool false), .v (.int .i64 0), .v (.int .i64 0), .v (.int .i64 0), .v (.bool false)])]) ?_ ?_
    ·rintro ⟨⟩ h
     refine pt_then ?_
     refine yxx hn 0 ?_
     refine yS (.agg [.v (.int .i64 0), .v (.slice none 0 0), .v (.bool false), .v (.int .i64 0), .v (.int .i64 0), .v (.int .i64 0), .v (.bool false)]) 0 ⟨op_build _ _ _ _ [1, 1, 1, 1, 1, 1, 1] _ _ underlying24 zr24 (fs24 _ underlying24) Src.nil rfl rfl rfl⟩ ?_
     refine yk [86,4] [] ?_
     refine yt (4, .box 24 [.v (.int .i64 0), .v (.slice none 0 0), .v (.bool false), .v (.int .i64 0), .v (.int .i64 0), .v (.int .i64 0), .v (.bool false)]) 1 ⟨op_store_self _ _ _ 86 4 7 sz24 rfl rfl rfl rfl rfl (.eq _ (.eq _ (.eq _ (.eq _ (.eq _ (.eq _ (.eq _ (.nil _)))))))) rfl⟩ ?_
     refine yee [4,5] ?_
     refine ht_ret ?_
     refine pt_sub (fs := [(4, .box 24 [.v (.int .i64 0), .fl (.own 5) 1 (List.map (Value.int .u8) []), .v (.bool false), .v (.int .i64 0), .v (.int .i64 0), .v (.int .i64 0), .v (.bool false)]), (5, .v (.int .i64 11))]) (.box _ _ (subs_cons (sub_refl _) (subs_cons (sub_nil 5 1) (subs_cons (sub_refl _) (subs_cons (sub_refl _) (subs_cons (sub_refl _) (subs_cons (sub_refl _) (subs_cons (sub_refl _) (subs_nil)))))))) rfl (.same _ .nil)) ?_
     obtain rfl := Option.some.inj h
     exact pt_ret hio rfl (.cellA _ _ _ _ underlying24 rfl sz24 (.tmp _ _ .nil)) rfl rfl
    ·intro u97 h hl98 hr99
     refine yyy hn 2 [2,3,4,6,22] ?_
     refine ht_joinS h (fun (() : Unit) => [(4, .box 24 [.v (.int .i64 0), .v (.slice none 0 0), .v (.bool false), .v (.int .i64 0), .v (.int .i64 0), .v (.int .i64 0), .v (.bool false)])]) ?_ ?_
     ·rintro ⟨⟩ h
      exact hl98 _ (Option.some.inj h).symm
     ·intro u140 h hl141 hr142
      refine ht_block ?_
      refine yyy hn 2 [2,3,4,6,22,23] ?_
      refine ht_cond _ rfl (fun hb143 => ?_) (fun hb143 => ?_)
      ·have h := cond_t hb143 h
       refine ht_seq ?_
       refine ht_seq ?_
       refine ht_joinS h (fun (s144 : Bool) => [(3, .box 26 [.v (.int .i64 f.Kind), .v (.int .i64 f.Number), .v (.int .i64 f.Offset), .v (.int .i64 f.Seq), .fl .shr 1 (List.map (Value.int .u8) f.Data)]), (4, .box 24 [.v (.int .i64 0), .v (.slice none 0 0), .v (.bool false), .v (.int .i64 0), .v (.int .i64 0), .v (.int .i64 0), .v (.bool false)]), (6, .box 24 [.v (.int .i64 v1.Number), .fl (.own 5) 1 (List.map (Value.int .u8) v1.Data), .v (.bool v1.Ready), .v (.int .i64 v1.Base), .v (.int .i64 v1.Next), .v (.int .i64 v1.Wait), .v (.bool v1.Over)]), (44, .v (.bool s144))]) ?_ ?_
       ·rintro s144 h
        refine pt_then ?_
        refine ht_cond _ rfl (fun hb148 => ?_) (fun hb148 => ?_)
        ·have h := cond_t hb148 h
         refine yxx hn 0 ?_
         refine yS (.agg [.v (.int .i64 0), .v (.slice none 0 0), .v (.bool false), .v (.int .i64 0), .v (.int .i64 0), .v (.int .i64 0), .v (.bool false)]) 0 ⟨op_build _ _ _ _ [1, 1, 1, 1, 1, 1, 1] _ _ underlying24 zr24 (fs24 _ underlying24) Src.nil rfl rfl rfl⟩ ?_
         refine yk [45,4] [] ?_
         refine yt (4, .box 24 [.v (.int .i64 0), .v (.slice none 0 0), .v (.bool false), .v (.int .i64 0), .v (.int .i64 0), .v (.int .i64 0), .v (.bool false)]) 1 ⟨op_store_self _ _ _ 45 4 7 sz24 rfl rfl rfl rfl rfl (.eq _ (.eq _ (.eq _ (.eq _ (.eq _ (.eq _ (.eq _ (.nil _)))))))) rfl⟩ ?_
         refine yee [4,5] ?_
         refine ht_ret ?_
         refine pt_sub (fs := [(4, .box 24 [.v (.int .i64 0), .fl (.own 5) 1 (List.map (Value.int .u8) []), .v (.bool false), .v (.int .i64 0), .v (.int .i64 0), .v (.int .i64 0), .v (.bool false)]), (5, .v (.int .i64 11))]) (.box _ _ (subs_cons (sub_refl _) (subs_cons (sub_nil 5 1) (subs_cons (sub_refl _) (subs_cons (sub_refl _) (subs_cons (sub_refl _) (subs_cons (sub_refl _) (subs_cons (sub_refl _) (subs_nil)))))))) rfl (.same _ .nil)) ?_
         refine pt_r_then ?_
         refine pt_r_in ?_
         refine pt_r_then ?_
         have h := hr142 _ (Option.some.inj h).symm
         have h := hr99 _ (Option.some.inj h).symm
         obtain rfl := Option.some.inj h
         exact pt_ret hio rfl (.cellA _ _ _ _ underlying24 rfl sz24 (.tmp _ _ .nil)) rfl rfl
        ·have h := cond_f hb148 h
         refine ht_skip ?_
         refine pt_then (ht_seq ?_)
         obtain ⟨v14, hv14, h⟩ := bind_some h
         obtain ⟨v15, hv15, h⟩ := bind_some h
         obtain ⟨v16, hv16, h⟩ := bind_some h
         refine yx hn 2 ?_
         refine ys 0 ⟨lb hv14⟩ ?_
         refine ys 0 ⟨lb hv15⟩ ?_
         refine ys 1 ⟨lB (quo_ok hv16)⟩ ?_
         refine yee [4,6,7] ?_
         refine yyy hn 10 [4,6] ?_
         refine yxx hn 0 ?_
         refine yk [6] [] ?_
         refine yt (57, .agg [.v (.int .i64 v1.Number), .fl (.own 5) 1 (List.map (Value.int .u8) v1.Data), .v (.bool true), .v (.int .i64 v16), .v (.int .i64 v16), .v (.int .i64 0), .v (.bool v1.Over)]) 0 ⟨op_loadA_take _ _ _ _ underlying24 rfl sz24 rfl rfl⟩ ?_
         refine yk [57,4] [] ?_
         refine yt (4, .box 24 [.v (.int .i64 v1.Number), .fl (.own 5) 1 (List.map (Value.int .u8) v1.Data), .v (.bool true), .v (.int .i64 v16), .v (.int .i64 v16), .v (.int .i64 0), .v (.bool v1.Over)]) 1 ⟨op_store_take _ _ _ _ _ _ _ _ sz24 rfl rfl rfl (zl rfl) rfl rfl⟩ ?_
         refine yee [4,5] ?_
         refine ht_ret ?_
         refine pt_r_in ?_
         refine pt_r_then ?_
         have h := hr142 _ (Option.some.inj h).symm
         have h := hr99 _ (Option.some.inj h).symm
         obtain rfl := Option.some.inj h
         exact pt_ret hio rfl (.cellA _ _ _ _ underlying24 rfl sz24 (.tmp _ _ .nil)) rfl rfl
       ·intro u145 h hl146 hr147
        refine cond_some h (fun hg6_6 h => ?_) (fun hg6_6 h => ?_)
        ·refine yx hn 7 ?_
         refine yd hg6_6 13 ?_
         refine ye [3,4,6,44] ?_
         exact hl146 _ (Option.some.inj h).symm
        ·obtain ⟨v8, hv8, h⟩ := bind_some h
         refine cond_some h (fun hg6_11 h => ?_) (fun hg6_11 h => ?_)
         ·refine yx hn 7 ?_
          refine yd hg6_6 2 ?_
          refine ys 2 ⟨lB (rem_ok hv8)⟩ ?_
          refine yd hg6_11 8 ?_
          refine ye [3,4,6,44] ?_
          exact hl146 _ (Option.some.inj h).symm
         ·refine yx hn 7 ?_
          refine yd hg6_6 2 ?_
          refine ys 2 ⟨lB (rem_ok hv8)⟩ ?_
          refine yd hg6_11 8 ?_
          refine ye [3,4,6,44] ?_
          exact hl146 _ (Option.some.inj h).symm
      ·have h := cond_f hb143 h
       refine yyy hn 2 [2,3,4,6,22,58] ?_
       refine ht_cond _ rfl (fun hb149 => ?_) (fun hb149 => ?_)
       ·have h := cond_t hb149 h
        refine ht_seq ?_
        obtain ⟨v18, hv18, h⟩ := bind_some h
        refine yx hn 2 ?_
        refine ys 1 ⟨lb hv18⟩ ?_
        refine yee [2,3,4,6,8] ?_
        refine ht_loopS h (fun (s163 : Int) => [(2, .box 24 [.v (.int .i64 s.Number), .fl .shr 1 (List.map (Value.int .u8) s.Data), .v (.bool s.Ready), .v (.int .i64 s.Base), .v (.int .i64 s.Next), .v (.int .i64 s.Wait), .v (.bool s.Over)]), (3, .box 26 [.v (.int .i64 f.Kind), .v (.int .i64 f.Number), .v (.int .i64 f.Offset), .v (.int .i64 f.Seq), .fl .shr 1 (List.map (Value.int .u8) f.Data)]), (4, .box 24 [.v (.int .i64 0), .v (.slice none 0 0), .v (.bool false), .v (.int .i64 0), .v (.int .i64 0), .v (.int .i64 0), .v (.bool false)]), (6, .box 24 [.v (.int .i64 v1.Number), .fl (.own 5) 1 (List.map (Value.int .u8) v1.Data), .v (.bool v1.Ready), .v (.int .i64 v1.Base), .v (.int .i64 v1.Next), .v (.int .i64 v1.Wait), .v (.bool v1.Over)]), (8, .v (.int .i64 s163))]) (fun (() : Unit) => [(4, .box 24 [.v (.int .i64 0), .v (.slice none 0 0), .v (.bool false), .v (.int .i64 0), .v (.int .i64 0), .v (.int .i64 0), .v (.bool false)])]) ?_ ?_
        ·rintro ⟨⟩ h
         refine pt_inb ?_
         exact hl141 _ (Option.some.inj h).symm
        ·rintro u170 hl171 hr172 s163 rr175 h ho173
         refine ht_seq ?_
         refine ht_seq ?_
         refine ht_joinS h (fun (s176 : Bool) => [(2, .box 24 [.v (.int .i64 s.Number), .fl .shr 1 (List.map (Value.int .u8) s.Data), .v (.bool s.Ready), .v (.int .i64 s.Base), .v (.int .i64 s.Next), .v (.int .i64 s.Wait), .v (.bool s.Over)]), (3, .box 26 [.v (.int .i64 f.Kind), .v (.int .i64 f.Number), .v (.int .i64 f.Offset), .v (.int .i64 f.Seq), .fl .shr 1 (List.map (Value.int .u8) f.Data)]), (4, .box 24 [.v (.int .i64 0), .v (.slice none 0 0), .v (.bool false), .v (.int .i64 0), .v (.int .i64 0), .v (.int .i64 0), .v (.bool false)]), (6, .box 24 [.v (.int .i64 v1.Number), .fl (.own 5) 1 (List.map (Value.int .u8) v1.Data), .v (.bool v1.Ready), .v (.int .i64 v1.Base), .v (.int .i64 v1.Next), .v (.int .i64 v1.Wait), .v (.bool v1.Over)]), (8, .v (.int .i64 s163)), (70, .v (.bool s176))]) ?_ ?_
         ·rintro s176 h
          refine pt_then ?_
          refine ht_cond _ rfl (fun hb180 => ?_) (fun hb180 => ?_)
          ·have h := cond_t hb180 h
           refine ht_skip ?_
           refine pt_then (ht_seq ?_)
           refine ht_block ?_
           refine ht_seq ?_
           obtain ⟨v24, hv24, h⟩ := bind_some h
           refine yx hn 1 ?_
           refine ys 3 ⟨lB (rem_ok hv24)⟩ ?_
           refine yee [2,3,4,6,8,77] ?_
           refine ht_cond _ rfl (fun hb181 => ?_) (fun hb181 => ?_)
           ·have h := cond_t hb181 h
            refine yyy hn 5 [4,6] ?_
            refine yxx hn 0 ?_
            refine yk [6] [] ?_
            refine yt (81, .agg [.v (.int .i64 v1.Number), .fl (.own 5) 1 (List.map (Value.int .u8) v1.Data), .v (.bool v1.Ready), .v (.int .i64 s163), .v (.int .i64 v1.Next), .v (.int .i64 3), .v (.bool v1.Over)]) 0 ⟨op_loadA_take _ _ _ _ underlying24 rfl sz24 rfl rfl⟩ ?_
            refine yk [81,4] [] ?_
            refine yt (4, .box 24 [.v (.int .i64 v1.Number), .fl (.own 5) 1 (List.map (Value.int .u8) v1.Data), .v (.bool v1.Ready), .v (.int .i64 s163), .v (.int .i64 v1.Next), .v (.int .i64 3), .v (.bool v1.Over)]) 1 ⟨op_store_take _ _ _ _ _ _ _ _ sz24 rfl rfl rfl (zl rfl) rfl rfl⟩ ?_
            refine yee [4,5] ?_
            refine ht_ret ?_
            refine pt_r_in ?_
            refine pt_r_then ?_
            refine pt_r_then ?_
            refine pt_r_in ?_
            refine pt_r_in ?_
            refine pt_r_then ?_
            have h := hr172 _ (ho173 _ (Option.some.inj h).symm).symm
            have h := hr142 _ (Option.some.inj h).symm
            have h := hr99 _ (Option.some.inj h).symm
            obtain rfl := Option.some.inj h
            exact pt_ret hio rfl (.cellA _ _ _ _ underlying24 rfl sz24 (.tmp _ _ .nil)) rfl rfl
           ·have h := cond_f hb181 h
            refine ht_skip ?_
            refine pt_inb ?_
            refine pt_then ?_
            obtain ⟨v26, hv26, h⟩ := bind_some h
            refine yx hn 1 ?_
            refine ys 0 ⟨lb hv26⟩ ?_
            refine yw [8] 1 ?_
            refine ye [2,3,4,6,8] ?_
            exact pt_next _ (Option.some.inj h).symm rfl
          ·have h := cond_f hb180 h
           refine ht_exit ?_
           refine pt_x_then ?_
           refine pt_x_then ?_
           refine pt_x_in ?_
           refine pt_pick [2] (by kernel_rfl) (es' := [(_,_)]) rfl ?_
           exact hl171 _ (ho173 _ (Option.some.inj h).symm).symm
         ·intro u177 h hl178 hr179
          refine cond_some h (fun hg13_4 h => ?_) (fun hg13_4 h => ?_)
          ·refine yx hn 5 ?_
           refine yd hg13_4 3 ?_
           refine ye [2,3,4,6,8,70] ?_
           exact hl178 _ (Option.some.inj h).symm
          ·refine yx hn 5 ?_
           refine yd hg13_4 3 ?_
           refine ye [2,3,4,6,8,70] ?_
           exact hl178 _ (Option.some.inj h).symm
       ·have h := cond_f hb149 h
        refine yyy hn 2 [4,6,82] ?_
        refine ht_cond _ rfl (fun hb182 => ?_) (fun hb182 => ?_)
        ·have h := cond_t hb182 h
         refine yyy hn 2 [4,6] ?_
         refine yxx hn 0 ?_
         refine yk [6] [] ?_
         refine yt (85, .agg [.v (.int .i64 v1.Number), .fl (.own 5) 1 (List.map (Value.int .u8) v1.Data), .v (.bool v1.Ready), .v (.int .i64 v1.Base), .v (.int .i64 v1.Next), .v (.int .i64 v1.Wait), .v (.bool true)]) 0 ⟨op_loadA_take _ _ _ _ underlying24 rfl sz24 rfl rfl⟩ ?_
         refine yk [85,4] [] ?_
         refine yt (4, .box 24 [.v (.int .i64 v1.Number), .fl (.own 5) 1 (List.map (Value.int .u8) v1.Data), .v (.bool v1.Ready), .v (.int .i64 v1.Base), .v (.int .i64 v1.Next), .v (.int .i64 v1.Wait), .v (.bool true)]) 1 ⟨op_store_take _ _ _ _ _ _ _ _ sz24 rfl rfl rfl (zl rfl) rfl rfl⟩ ?_
         refine yee [4,5] ?_
         refine ht_ret ?_
         refine pt_r_in ?_
         refine pt_r_then ?_
         have h := hr142 _ (Option.some.inj h).symm
         have h := hr99 _ (Option.some.inj h).symm
         obtain rfl := Option.some.inj h
         exact pt_ret hio rfl (.cellA _ _ _ _ underlying24 rfl sz24 (.tmp _ _ .nil)) rfl rfl
        ·have h := cond_f hb182 h
         refine ht_skip ?_
         refine pt_inb ?_
         refine pt_pick [0] (by kernel_rfl) (es' := [(_,_)]) rfl ?_
         exact hl141 _ (Option.some.inj h).symm
  ·intro u3 h hl4 hr5
   refine cond_some h (fun hg2_5 h => ?_) (fun hg2_5 h => ?_)
   ·refine yx hn 6 ?_
    refine yd hg2_5 3 ?_
    refine ye [2,3,4,6,19] ?_
    exact hl4 _ (Option.some.inj h).symm
   ·refine yx hn 6 ?_
    refine yd hg2_5 3 ?_
    refine ye [2,3,4,6,19] ?_
    exact hl4 _ (Option.some.inj h).symm
theorem ok_wherrykeep_Over_row (b : (List Int)) (r : (List Int)) (h : Sh.wherrykeep_Over_row b = some r) : FnP Try.prog 26 [.fl (.own 5) 1 (List.map (Value.int .u8) b)] [.fl (.own 5) 1 (List.map (Value.int .u8) r)] (.tup []) := by
  unfold Sh.wherrykeep_Over_row at h
  refine yP 17 func26 fun args0 hargs0 g0 hn hio => ?_
  refine yyy hn 1 [0,2,0] ?_
  refine ht_loopS h (fun ((s11, s12) : (List Int) × Int) => [(0, .fl (.own 5) 1 (List.map (Value.int .u8) s11)), (2, .v (.int .i64 s12)), (0, .v (List.getD args0 0 undef))]) (fun (s14 : (List Int)) => [(0, .fl (.own 5) 1 (List.map (Value.int .u8) s14)), (0, .v (List.getD args0 0 undef))]) ?_ ?_
  ·rintro s14 h
   obtain rfl := Option.some.inj h
   exact pt_endP (es := []) (posts := [.fl (.own 5) 1 (List.map (Value.int .u8) s14)]) hio rfl rfl .nil rfl rfl hargs0 rfl
  ·rintro u15 hl16 hr17 ⟨s11, s12⟩ rr20 h ho18
   refine ht_seq ?_
   refine yyy hn 4 [0,2,6,0] ?_
   refine ht_cond _ rfl (fun hb21 => ?_) (fun hb21 => ?_)
   ·have h := cond_t hb21 h
    refine ht_skip ?_
    refine pt_then (ht_seq ?_)
    refine ht_block ?_
    obtain ⟨v2, hv2, h⟩ := bind_some h
    obtain ⟨v3, hv3, h⟩ := bind_some h
    obtain ⟨v4, hv4, h⟩ := bind_some h
    obtain ⟨v5, hv5, h⟩ := bind_some h
    obtain ⟨v6, hv6, h⟩ := bind_some h
    refine yx hn 4 ?_
    refine ys 0 ⟨li hv2⟩ ?_
    refine ys 0 ⟨ll hv3⟩ ?_
    refine ys 0 ⟨lb hv4⟩ ?_
    refine ys 0 ⟨li hv5⟩ ?_
    refine yk [0] [16,15] ?_
    refine yt (0, .fl (.own 5) 1 (List.map (Value.int .u8) v6)) 0 ⟨op_store_e _ _ _ _ _ _ _ _ sz5 rfl rfl rfl (by decide) (map_lt (ix_ok hv5).2) ((map_set (f := Value.int .u8) _ (ix_ok hv5).2).trans (congrArg (List.map _) (Option.some.inj hv6)))⟩ ?_
    refine ye [0,2,0] ?_
    refine pt_inb ?_
    refine pt_then ?_
    obtain ⟨v7, hv7, h⟩ := bind_some h
    refine yx hn 1 ?_
    refine ys 0 ⟨lb hv7⟩ ?_
    refine yw [2] 1 ?_
    refine ye [0,2,0] ?_
    exact pt_next _ (Option.some.inj h).symm rfl
   ·have h := cond_f hb21 h
    refine ht_exit ?_
    refine pt_x_then ?_
    refine pt_x_then ?_
    refine pt_x_in ?_
    refine pt_pick [0, 3] (by kernel_rfl) (es' := [(_,_),(_,_)]) rfl ?_
    exact hl16 _ (ho18 _ (Option.some.inj h).symm).symm
theorem ok_wherrykeep_Over (b : (List Int)) (r : Unit) (h : Sh.wherrykeep_Over b = some r) : FnE Try.prog 26 [.fl (.own 5) 1 (List.map (Value.int .u8) b)] (.tup []) := by
  unfold Sh.wherrykeep_Over at h
  refine yE 17 func26 fun g0 hn hio => ?_
  refine yyy hn 1 [0,2] ?_
  refine ht_loopS h (fun ((s11, s12) : (List Int) × Int) => [(0, .fl (.own 5) 1 (List.map (Value.int .u8) s11)), (2, .v (.int .i64 s12))]) (fun (() : Unit) => []) ?_ ?_
  ·rintro ⟨⟩ h
   obtain rfl := Option.some.inj h
   exact pt_endE hio rfl .nil rfl rfl
  ·rintro u14 hl15 hr16 ⟨s11, s12⟩ rr19 h ho17
   refine ht_seq ?_
   refine yyy hn 4 [0,2,6] ?_
   refine ht_cond _ rfl (fun hb20 => ?_) (fun hb20 => ?_)
   ·have h := cond_t hb20 h
    refine ht_skip ?_
    refine pt_then (ht_seq ?_)
    refine ht_block ?_
    obtain ⟨v2, hv2, h⟩ := bind_some h
    obtain ⟨v3, hv3, h⟩ := bind_some h
    obtain ⟨v4, hv4, h⟩ := bind_some h
    obtain ⟨v5, hv5, h⟩ := bind_some h
    obtain ⟨v6, hv6, h⟩ := bind_some h
    refine yx hn 4 ?_
    refine ys 0 ⟨li hv2⟩ ?_
    refine ys 0 ⟨ll hv3⟩ ?_
    refine ys 0 ⟨lb hv4⟩ ?_
    refine ys 0 ⟨li hv5⟩ ?_
    refine yk [0] [16,15] ?_
    refine yt (0, .fl (.own 5) 1 (List.map (Value.int .u8) v6)) 0 ⟨op_store_e _ _ _ _ _ _ _ _ sz5 rfl rfl rfl (by decide) (map_lt (ix_ok hv5).2) ((map_set (f := Value.int .u8) _ (ix_ok hv5).2).trans (congrArg (List.map _) (Option.some.inj hv6)))⟩ ?_
    refine ye [0,2] ?_
    refine pt_inb ?_
    refine pt_then ?_
    obtain ⟨v7, hv7, h⟩ := bind_some h
    refine yx hn 1 ?_
    refine ys 0 ⟨lb hv7⟩ ?_
    refine yw [2] 1 ?_
    refine ye [0,2] ?_
    exact pt_next _ (Option.some.inj h).symm rfl
   ·have h := cond_f hb20 h
    refine ht_exit ?_
    refine pt_x_then ?_
    refine pt_x_then ?_
    refine pt_x_in ?_
    refine pt_pick [] (by kernel_rfl) (es' := []) rfl ?_
    exact hl15 _ (ho17 _ (Option.some.inj h).symm).symm
end Go.Proofs.Ytdligpdfcfbgpaa
