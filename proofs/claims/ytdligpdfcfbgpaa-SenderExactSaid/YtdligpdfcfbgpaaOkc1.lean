/-
  The model's runs are what is told in Lean.
-/
import Derived.Test.YtdligpdfcfbgpaaProg
import Derived.KernelRfl
import Derived.Test.YtdligpdfcfbgpaaBE
import Derived.Test.YtdligpdfcfbgpaaC1
import Derived.Test.YtdligpdfcfbgpaaSh
set_option linter.unusedVariables false
set_option linter.unusedSimpArgs false
set_option maxHeartbeats 1000000
namespace Go.Proofs.Ytdligpdfcfbgpaa
open Go.Abs Go.Abs.Sh Try
theorem sz22 : (Try.prog.info? 22).map (·.size) = some 1 := by kernel_rfl
instance iFO24_1 : FO Try.prog 24 1 1 := ⟨by kernel_rfl⟩
instance iAG22 : AS Try.prog 22 := ⟨by kernel_rfl⟩
instance iUD22 : UD Try.prog 22 (.slice 5) := ⟨Try.underlying22⟩
instance iFO26_4 : FO Try.prog 26 4 4 := ⟨by kernel_rfl⟩
theorem sz24 : (Try.prog.info? 24).map (·.size) = some 7 := by kernel_rfl
theorem zr24 : (Try.prog.info? 24).bind (·.zero) = some (.agg #[.int .i64 0, .slice none 0 0, .bool false, .int .i64 0, .int .i64 0, .int .i64 0, .bool false]) := by kernel_rfl
theorem el22 : ElemT Try.prog 22 5 1 1 := ⟨⟨Try.t5, .int .u8 0, Try.underlying22, by kernel_rfl, by kernel_rfl, by kernel_rfl, by kernel_rfl, by decide, by kernel_rfl⟩⟩
theorem sz26 : (Try.prog.info? 26).map (·.size) = some 5 := by kernel_rfl
theorem zr26 : (Try.prog.info? 26).bind (·.zero) = some (.agg #[.int .i64 0, .int .i64 0, .int .i64 0, .int .i64 0, .slice none 0 0]) := by kernel_rfl
instance iAG24 : AA Try.prog 24 7 := ⟨by kernel_rfl⟩
instance iAG26 : AA Try.prog 26 5 := ⟨by kernel_rfl⟩
theorem sz3 : (Try.prog.info? 3).map (·.size) = some 1 := by kernel_rfl
instance iFO24_0 : FO Try.prog 24 0 0 := ⟨by kernel_rfl⟩
instance iAG3 : AS Try.prog 3 := ⟨by kernel_rfl⟩
instance iFO24_3 : FO Try.prog 24 3 3 := ⟨by kernel_rfl⟩
instance iFO24_4 : FO Try.prog 24 4 4 := ⟨by kernel_rfl⟩
instance iFO24_5 : FO Try.prog 24 5 5 := ⟨by kernel_rfl⟩
instance iFO24_2 : FO Try.prog 24 2 2 := ⟨by kernel_rfl⟩
instance iAG4 : AS Try.prog 4 := ⟨by kernel_rfl⟩
theorem fs24 : ∀ fs, Try.prog.underlying 24 = some (.struct fs) → fs.toList.map (fun f => (Try.prog.info? f.type).map (·.size)) = ([1, 1, 1, 1, 1, 1, 1] : List Nat).map some := by
  intro fs h
  rw [Try.underlying24] at h
  cases h
  kernel_rfl
def oe26 (x : T_Frame) : List AV := [.v (.int .i64 x.Kind), .v (.int .i64 x.Number), .v (.int .i64 x.Offset), .v (.int .i64 x.Seq), .fl (.own 5) 1 (List.map (Value.int .u8) x.Data)]
theorem oe26_l (x : T_Frame) : (oe26 x).length = 5 := rfl
theorem oe26_c (x : T_Frame) : closeds (oe26 x) = true := rfl
theorem oe26_s (x : T_Frame) : noShrs (oe26 x) = true := rfl
theorem oe26_i (x : T_Frame) : AIs true ((oe26 x).map shrA) (T_Frame.ienc x) := .cons (.v _) (.cons (.v _) (.cons (.v _) (.cons (.v _) (.cons (.shr _ _ rfl rfl) (.nil)))))
instance iFO24_6 : FO Try.prog 24 6 6 := ⟨by kernel_rfl⟩
theorem fs26 : ∀ fs, Try.prog.underlying 26 = some (.struct fs) → fs.toList.map (fun f => (Try.prog.info? f.type).map (·.size)) = ([1, 1, 1, 1, 1] : List Nat).map some := by
  intro fs h
  rw [Try.underlying26] at h
  cases h
  kernel_rfl
theorem el31 : ElemT Try.prog 31 26 5 56 := ⟨⟨Try.t26, .agg #[.int .i64 0, .int .i64 0, .int .i64 0, .int .i64 0, .slice none 0 0], Try.underlying31, by kernel_rfl, by kernel_rfl, by kernel_rfl, by kernel_rfl, by decide, by kernel_rfl⟩⟩
theorem sz5 : (Try.prog.info? 5).map (·.size) = some 1 := by kernel_rfl
instance iFO26_2 : FO Try.prog 26 2 2 := ⟨by kernel_rfl⟩
instance iFO26_3 : FO Try.prog 26 3 3 := ⟨by kernel_rfl⟩
instance iFO26_0 : FO Try.prog 26 0 0 := ⟨by kernel_rfl⟩
instance iFO26_1 : FO Try.prog 26 1 1 := ⟨by kernel_rfl⟩
instance iSZ5 : SZ Try.prog 5 1 := ⟨by kernel_rfl⟩
instance iAG5 : AS Try.prog 5 := ⟨by kernel_rfl⟩
theorem zr5 : (Try.prog.info? 5).bind (·.zero) = some (.int .u8 0) := by kernel_rfl
instance iUD31 : UD Try.prog 31 (.slice 26) := ⟨Try.underlying31⟩
instance iLiT_Frame : LenI T_Frame.ienc 5 := ⟨T_Frame.ilen⟩
instance iSZ26 : SZ Try.prog 26 5 := ⟨by kernel_rfl⟩
theorem ok_wherrykeep_Twin (l : (List Int)) (r : (List Int)) (h : Sh.wherrykeep_Twin l = some r) : FnOK Try.prog 12 [.fl .shr 1 (List.map (Value.int .u8) l)] (.fl (.own 5) 1 (List.map (Value.int .u8) r)) := by
  unfold Sh.wherrykeep_Twin at h
  refine yO 7 func12 fun g0 hn hio => ?_
  refine yyy hn 1 [0] ?_
  refine yyy hn 1 [0,3] ?_
  refine ht_seq ?_
  obtain ⟨v1, hv1, h⟩ := bind_some h
  refine yx hn 2 ?_
  refine yS (.fl (.own 5) 1 (List.map (Value.int .u8) v1)) 0 ⟨op_app_nil _ _ _ _ el22 rfl rfl (map_len _) hv1 (congrArg (List.map _) (app_nil_eq hv1))⟩ ?_
  refine ya 0 ?_
  refine yee [2] ?_
  refine ht_ret ?_
  obtain rfl := Option.some.inj h
  exact pt_ret hio rfl (.tmp _ _ .nil) rfl rfl
theorem ok_wherrykeep_TwinSend (s : T_Send) (r : T_Send) (h : Sh.wherrykeep_TwinSend s = some r) : FnOK Try.prog 10 [.agg [.v (.int .i64 s.Number), .fl .shr 1 (List.map (Value.int .u8) s.Data), .v (.bool s.Ready), .v (.int .i64 s.Base), .v (.int .i64 s.Next), .v (.int .i64 s.Wait), .v (.bool s.Over)]] (.agg [.v (.int .i64 r.Number), .fl (.own 5) 1 (List.map (Value.int .u8) r.Data), .v (.bool r.Ready), .v (.int .i64 r.Base), .v (.int .i64 r.Next), .v (.int .i64 r.Wait), .v (.bool r.Over)]) := by
  unfold Sh.wherrykeep_TwinSend at h
  refine yO 8 func10 fun g0 hn hio => ?_
  refine yxx hn 1 ?_
  refine yS (.box 24 [.v (.int .i64 0), .v (.slice none 0 0), .v (.bool false), .v (.int .i64 0), .v (.int .i64 0), .v (.int .i64 0), .v (.bool false)]) 0 ⟨oA (op_alloc _ _ zr24)⟩ ?_
  refine yee [1,2] ?_
  refine ht_seq ?_
  obtain ⟨v1, hv1, h⟩ := bind_some h
  refine yx hn 2 ?_
  refine ys 1 ⟨lk call12 (ok_wherrykeep_Twin _ _ hv1)⟩ ?_
  refine yk [5,1] [6] ?_
  refine yt (1, .box 24 [.v (.int .i64 s.Number), .fl (.own 5) 1 (List.map (Value.int .u8) v1), .v (.bool s.Ready), .v (.int .i64 s.Base), .v (.int .i64 s.Next), .v (.int .i64 s.Wait), .v (.bool s.Over)]) 0 ⟨op_store_take _ _ _ _ _ _ _ _ sz22 rfl rfl rfl (zl rfl) rfl rfl⟩ ?_
  refine yee [1,2] ?_
  refine yxx hn 0 ?_
  refine yk [1] [] ?_
  refine yt (7, .agg [.v (.int .i64 s.Number), .fl (.own 5) 1 (List.map (Value.int .u8) v1), .v (.bool s.Ready), .v (.int .i64 s.Base), .v (.int .i64 s.Next), .v (.int .i64 s.Wait), .v (.bool s.Over)]) 0 ⟨op_loadA_take _ _ _ _ underlying24 rfl sz24 rfl rfl⟩ ?_
  refine yk [7,2] [] ?_
  refine yt (2, .box 24 [.v (.int .i64 s.Number), .fl (.own 5) 1 (List.map (Value.int .u8) v1), .v (.bool s.Ready), .v (.int .i64 s.Base), .v (.int .i64 s.Next), .v (.int .i64 s.Wait), .v (.bool s.Over)]) 0 ⟨op_store_take _ _ _ _ _ _ _ _ sz24 rfl rfl rfl (zl rfl) rfl rfl⟩ ?_
  refine yee [2] ?_
  refine ht_ret ?_
  obtain rfl := Option.some.inj h
  exact pt_ret hio rfl (.cellA _ _ _ _ underlying24 rfl sz24 .nil) rfl rfl
theorem ok_wherrykeep_TwinFrame (f : T_Frame) (r : T_Frame) (h : Sh.wherrykeep_TwinFrame f = some r) : FnOK Try.prog 11 [.agg [.v (.int .i64 f.Kind), .v (.int .i64 f.Number), .v (.int .i64 f.Offset), .v (.int .i64 f.Seq), .fl .shr 1 (List.map (Value.int .u8) f.Data)]] (.agg [.v (.int .i64 r.Kind), .v (.int .i64 r.Number), .v (.int .i64 r.Offset), .v (.int .i64 r.Seq), .fl (.own 5) 1 (List.map (Value.int .u8) r.Data)]) := by
  unfold Sh.wherrykeep_TwinFrame at h
  refine yO 8 func11 fun g0 hn hio => ?_
  refine yxx hn 1 ?_
  refine yS (.box 26 [.v (.int .i64 0), .v (.int .i64 0), .v (.int .i64 0), .v (.int .i64 0), .v (.slice none 0 0)]) 0 ⟨oA (op_alloc _ _ zr26)⟩ ?_
  refine yee [1,2] ?_
  refine ht_seq ?_
  obtain ⟨v1, hv1, h⟩ := bind_some h
  refine yx hn 2 ?_
  refine ys 1 ⟨lk call12 (ok_wherrykeep_Twin _ _ hv1)⟩ ?_
  refine yk [5,1] [6] ?_
  refine yt (1, .box 26 [.v (.int .i64 f.Kind), .v (.int .i64 f.Number), .v (.int .i64 f.Offset), .v (.int .i64 f.Seq), .fl (.own 5) 1 (List.map (Value.int .u8) v1)]) 0 ⟨op_store_take _ _ _ _ _ _ _ _ sz22 rfl rfl rfl (zl rfl) rfl rfl⟩ ?_
  refine yee [1,2] ?_
  refine yxx hn 0 ?_
  refine yk [1] [] ?_
  refine yt (7, .agg [.v (.int .i64 f.Kind), .v (.int .i64 f.Number), .v (.int .i64 f.Offset), .v (.int .i64 f.Seq), .fl (.own 5) 1 (List.map (Value.int .u8) v1)]) 0 ⟨op_loadA_take _ _ _ _ underlying26 rfl sz26 rfl rfl⟩ ?_
  refine yk [7,2] [] ?_
  refine yt (2, .box 26 [.v (.int .i64 f.Kind), .v (.int .i64 f.Number), .v (.int .i64 f.Offset), .v (.int .i64 f.Seq), .fl (.own 5) 1 (List.map (Value.int .u8) v1)]) 0 ⟨op_store_take _ _ _ _ _ _ _ _ sz26 rfl rfl rfl (zl rfl) rfl rfl⟩ ?_
  refine yee [2] ?_
  refine ht_ret ?_
  obtain rfl := Option.some.inj h
  exact pt_ret hio rfl (.cellA _ _ _ _ underlying26 rfl sz26 .nil) rfl rfl
theorem ok_wherryref18_pieces (b : (List Int)) (r : Int) (h : Sh.wherryref18_pieces b = some r) : FnOK Try.prog 29 [.fl .shr 1 (List.map (Value.int .u8) b)] (.v (.int .i64 r)) := by
  unfold Sh.wherryref18_pieces at h
  refine yO 8 func29 fun g0 hn hio => ?_
  refine yyy hn 1 [0] ?_
  refine ht_seq ?_
  obtain ⟨v1, hv1, h⟩ := bind_some h
  obtain ⟨v2, hv2, h⟩ := bind_some h
  obtain ⟨v3, hv3, h⟩ := bind_some h
  refine yx hn 2 ?_
  refine ys 0 ⟨lb hv1⟩ ?_
  refine ys 0 ⟨lb hv2⟩ ?_
  refine ys 1 ⟨lB (quo_ok hv3)⟩ ?_
  refine yee [2] ?_
  refine ht_ret ?_
  obtain rfl := Option.some.inj h
  exact pt_ret hio rfl (.tmp _ _ .nil) rfl rfl
theorem ok_wherryref18_in (n : Int) (lo : Int) (hi : Int) (r : Bool) (h : Sh.wherryref18_in n lo hi = some r) : FnOK Try.prog 30 [.v (.int .i64 n), .v (.int .i64 lo), .v (.int .i64 hi)] (.v (.bool r)) := by
  unfold Sh.wherryref18_in at h
  refine yO 15 func30 fun g0 hn hio => ?_
  refine yyy hn 1 [0,1,2] ?_
  refine ht_seq ?_
  refine ht_joinS h (fun (s1 : Bool) => [(6, .v (.bool s1))]) ?_ ?_
  ·rintro s1 h
   refine pt_then (ht_ret ?_)
   obtain rfl := Option.some.inj h
   exact pt_ret hio rfl (.tmp _ _ .nil) rfl rfl
  ·intro u2 h hl3 hr4
   refine cond_some h (fun hg1_3 h => ?_) (fun hg1_3 h => ?_)
   ·refine yx hn 4 ?_
    refine yd hg1_3 5 ?_
    refine ye [6] ?_
    exact hl3 _ (Option.some.inj h).symm
   ·refine yx hn 4 ?_
    refine yd hg1_3 5 ?_
    refine ye [6] ?_
    exact hl3 _ (Option.some.inj h).symm
theorem ok_wherryref18_Send (s : T_Send) (r : Bool) (h : Sh.wherryref18_Send s = some r) : FnOK Try.prog 13 [.agg [.v (.int .i64 s.Number), .fl .shr 1 (List.map (Value.int .u8) s.Data), .v (.bool s.Ready), .v (.int .i64 s.Base), .v (.int .i64 s.Next), .v (.int .i64 s.Wait), .v (.bool s.Over)]] (.v (.bool r)) := by
  unfold Sh.wherryref18_Send at h
  refine yO 53 func13 fun g0 hn hio => ?_
  refine yyy hn 2 [1] ?_
  refine ht_seq ?_
  obtain ⟨v1, hv1, h⟩ := bind_some h
  refine yx hn 2 ?_
  refine ys 1 ⟨lk call29 (ok_wherryref18_pieces _ _ hv1)⟩ ?_
  refine yee [1,3] ?_
  refine ht_seq ?_
  refine ht_joinS h (fun (s9 : Bool) => [(2, .v (.bool s9))]) ?_ ?_
  ·rintro s9 h
   refine pt_then (ht_ret ?_)
   obtain rfl := Option.some.inj h
   exact pt_ret hio rfl (.tmp _ _ .nil) rfl rfl
  ·intro u10 h hl11 hr12
   obtain ⟨v2, hv2, h⟩ := bind_some h
   refine cond_some h (fun hg2_3 h => ?_) (fun hg2_3 h => ?_)
   ·obtain ⟨v3, hv3, h⟩ := bind_some h
    refine cond_some h (fun hg2_9 h => ?_) (fun hg2_9 h => ?_)
    ·obtain ⟨v4, hv4, h⟩ := bind_some h
     refine cond_some h (fun hg2_15 h => ?_) (fun hg2_15 h => ?_)
     ·obtain ⟨v5, hv5, h⟩ := bind_some h
      obtain ⟨v6, hv6, h⟩ := bind_some h
      obtain ⟨v7, hv7, h⟩ := bind_some h
      refine cond_some h (fun hg2_27 h => ?_) (fun hg2_27 h => ?_)
      ·obtain ⟨v8, hv8, h⟩ := bind_some h
       refine cond_some h (fun hg2_32 h => ?_) (fun hg2_32 h => ?_)
       ·refine cond_some h (fun hg2_35 h => ?_) (fun hg2_35 h => ?_)
        ·refine yx hn 2 ?_
         refine ys 1 ⟨lk call30 (ok_wherryref18_in _ _ _ _ hv2)⟩ ?_
         refine yd hg2_3 3 ?_
         refine ys 2 ⟨lk call30 (ok_wherryref18_in _ _ _ _ hv3)⟩ ?_
         refine yd hg2_9 3 ?_
         refine ys 2 ⟨lk call30 (ok_wherryref18_in _ _ _ _ hv4)⟩ ?_
         refine yd hg2_15 6 ?_
         refine ys 1 ⟨lb hv5⟩ ?_
         refine yS (.v (.int .i64 v6)) 0 ⟨(Option.some.inj hv6) ▸ op_min _ _ _ _ rfl rfl⟩ ?_
         refine ys 2 ⟨lk call30 (ok_wherryref18_in _ _ _ _ hv7)⟩ ?_
         refine yd hg2_27 2 ?_
         refine ys 2 ⟨lk call30 (ok_wherryref18_in _ _ _ _ hv8)⟩ ?_
         refine yd hg2_32 3 ?_
         refine yd hg2_35 11 ?_
         refine ye [2] ?_
         exact hl11 _ (Option.some.inj h).symm
        ·refine cond_some h (fun hg2_39 h => ?_) (fun hg2_39 h => ?_)
         ·refine yx hn 2 ?_
          refine ys 1 ⟨lk call30 (ok_wherryref18_in _ _ _ _ hv2)⟩ ?_
          refine yd hg2_3 3 ?_
          refine ys 2 ⟨lk call30 (ok_wherryref18_in _ _ _ _ hv3)⟩ ?_
          refine yd hg2_9 3 ?_
          refine ys 2 ⟨lk call30 (ok_wherryref18_in _ _ _ _ hv4)⟩ ?_
          refine yd hg2_15 6 ?_
          refine ys 1 ⟨lb hv5⟩ ?_
          refine yS (.v (.int .i64 v6)) 0 ⟨(Option.some.inj hv6) ▸ op_min _ _ _ _ rfl rfl⟩ ?_
          refine ys 2 ⟨lk call30 (ok_wherryref18_in _ _ _ _ hv7)⟩ ?_
          refine yd hg2_27 2 ?_
          refine ys 2 ⟨lk call30 (ok_wherryref18_in _ _ _ _ hv8)⟩ ?_
          refine yd hg2_32 3 ?_
          refine yd hg2_35 4 ?_
          refine yd hg2_39 7 ?_
          refine ye [2] ?_
          exact hl11 _ (Option.some.inj h).symm
         ·refine yx hn 2 ?_
          refine ys 1 ⟨lk call30 (ok_wherryref18_in _ _ _ _ hv2)⟩ ?_
          refine yd hg2_3 3 ?_
          refine ys 2 ⟨lk call30 (ok_wherryref18_in _ _ _ _ hv3)⟩ ?_
          refine yd hg2_9 3 ?_
          refine ys 2 ⟨lk call30 (ok_wherryref18_in _ _ _ _ hv4)⟩ ?_
          refine yd hg2_15 6 ?_
          refine ys 1 ⟨lb hv5⟩ ?_
          refine yS (.v (.int .i64 v6)) 0 ⟨(Option.some.inj hv6) ▸ op_min _ _ _ _ rfl rfl⟩ ?_
          refine ys 2 ⟨lk call30 (ok_wherryref18_in _ _ _ _ hv7)⟩ ?_
          refine yd hg2_27 2 ?_
          refine ys 2 ⟨lk call30 (ok_wherryref18_in _ _ _ _ hv8)⟩ ?_
          refine yd hg2_32 3 ?_
          refine yd hg2_35 4 ?_
          refine yd hg2_39 7 ?_
          refine ye [2] ?_
          exact hl11 _ (Option.some.inj h).symm
       ·refine yx hn 2 ?_
        refine ys 1 ⟨lk call30 (ok_wherryref18_in _ _ _ _ hv2)⟩ ?_
        refine yd hg2_3 3 ?_
        refine ys 2 ⟨lk call30 (ok_wherryref18_in _ _ _ _ hv3)⟩ ?_
        refine yd hg2_9 3 ?_
        refine ys 2 ⟨lk call30 (ok_wherryref18_in _ _ _ _ hv4)⟩ ?_
        refine yd hg2_15 6 ?_
        refine ys 1 ⟨lb hv5⟩ ?_
        refine yS (.v (.int .i64 v6)) 0 ⟨(Option.some.inj hv6) ▸ op_min _ _ _ _ rfl rfl⟩ ?_
        refine ys 2 ⟨lk call30 (ok_wherryref18_in _ _ _ _ hv7)⟩ ?_
        refine yd hg2_27 2 ?_
        refine ys 2 ⟨lk call30 (ok_wherryref18_in _ _ _ _ hv8)⟩ ?_
        refine yd hg2_32 14 ?_
        refine ye [2] ?_
        exact hl11 _ (Option.some.inj h).symm
      ·refine yx hn 2 ?_
       refine ys 1 ⟨lk call30 (ok_wherryref18_in _ _ _ _ hv2)⟩ ?_
       refine yd hg2_3 3 ?_
       refine ys 2 ⟨lk call30 (ok_wherryref18_in _ _ _ _ hv3)⟩ ?_
       refine yd hg2_9 3 ?_
       refine ys 2 ⟨lk call30 (ok_wherryref18_in _ _ _ _ hv4)⟩ ?_
       refine yd hg2_15 6 ?_
       refine ys 1 ⟨lb hv5⟩ ?_
       refine yS (.v (.int .i64 v6)) 0 ⟨(Option.some.inj hv6) ▸ op_min _ _ _ _ rfl rfl⟩ ?_
       refine ys 2 ⟨lk call30 (ok_wherryref18_in _ _ _ _ hv7)⟩ ?_
       refine yd hg2_27 19 ?_
       refine ye [2] ?_
       exact hl11 _ (Option.some.inj h).symm
     ·refine yx hn 2 ?_
      refine ys 1 ⟨lk call30 (ok_wherryref18_in _ _ _ _ hv2)⟩ ?_
      refine yd hg2_3 3 ?_
      refine ys 2 ⟨lk call30 (ok_wherryref18_in _ _ _ _ hv3)⟩ ?_
      refine yd hg2_9 3 ?_
      refine ys 2 ⟨lk call30 (ok_wherryref18_in _ _ _ _ hv4)⟩ ?_
      refine yd hg2_15 31 ?_
      refine ye [2] ?_
      exact hl11 _ (Option.some.inj h).symm
    ·refine yx hn 2 ?_
     refine ys 1 ⟨lk call30 (ok_wherryref18_in _ _ _ _ hv2)⟩ ?_
     refine yd hg2_3 3 ?_
     refine ys 2 ⟨lk call30 (ok_wherryref18_in _ _ _ _ hv3)⟩ ?_
     refine yd hg2_9 37 ?_
     refine ye [2] ?_
     exact hl11 _ (Option.some.inj h).symm
   ·refine yx hn 2 ?_
    refine ys 1 ⟨lk call30 (ok_wherryref18_in _ _ _ _ hv2)⟩ ?_
    refine yd hg2_3 43 ?_
    refine ye [2] ?_
    exact hl11 _ (Option.some.inj h).symm
theorem ok_sender_pieces (s : T_Send) (r : Int) (h : Sh.sender_pieces s = some r) : FnOK Try.prog 33 [.agg [.v (.int .i64 s.Number), .fl .shr 1 (List.map (Value.int .u8) s.Data), .v (.bool s.Ready), .v (.int .i64 s.Base), .v (.int .i64 s.Next), .v (.int .i64 s.Wait), .v (.bool s.Over)]] (.v (.int .i64 r)) := by
  unfold Sh.sender_pieces at h
  refine yO 9 func33 fun g0 hn hio => ?_
  refine yyy hn 2 [1] ?_
  refine ht_seq ?_
  obtain ⟨v1, hv1, h⟩ := bind_some h
  obtain ⟨v2, hv2, h⟩ := bind_some h
  obtain ⟨v3, hv3, h⟩ := bind_some h
  refine yx hn 3 ?_
  refine ys 0 ⟨lb hv1⟩ ?_
  refine ys 0 ⟨lb hv2⟩ ?_
  refine ys 1 ⟨lB (quo_ok hv3)⟩ ?_
  refine yee [2] ?_
  refine ht_ret ?_
  obtain rfl := Option.some.inj h
  exact pt_ret hio rfl (.tmp _ _ .nil) rfl rfl
theorem ok_sender_window (s : T_Send) (r : Int) (h : Sh.sender_window s = some r) : FnOK Try.prog 32 [.agg [.v (.int .i64 s.Number), .fl .shr 1 (List.map (Value.int .u8) s.Data), .v (.bool s.Ready), .v (.int .i64 s.Base), .v (.int .i64 s.Next), .v (.int .i64 s.Wait), .v (.bool s.Over)]] (.v (.int .i64 r)) := by
  unfold Sh.sender_window at h
  refine yO 9 func32 fun g0 hn hio => ?_
  refine yyy hn 2 [1] ?_
  refine ht_seq ?_
  obtain ⟨v1, hv1, h⟩ := bind_some h
  obtain ⟨v2, hv2, h⟩ := bind_some h
  obtain ⟨v3, hv3, h⟩ := bind_some h
  refine wb [[1],[3,1]] ?_
  refine wN [4] ?_
  refine wo [[1]] ⟨lb hv1⟩ ?_
  refine wN [6] ?_
  refine wo [] ⟨lk call33 (ok_sender_pieces _ _ hv2)⟩ ?_
  refine wN [5,7] ?_
  refine wS (.v (.int .i64 v3)) [[8]] ⟨(Option.some.inj hv3) ▸ op_min _ _ _ _ rfl rfl⟩ ?_
  refine wee hn [2] ?_
  refine ht_ret ?_
  obtain rfl := Option.some.inj h
  exact pt_ret hio rfl (.tmp _ _ .nil) rfl rfl
theorem ok_sender_Check (s : T_Send) (r : Int) (h : Sh.sender_Check s = some r) : FnOK Try.prog 17 [.agg [.v (.int .i64 s.Number), .fl .shr 1 (List.map (Value.int .u8) s.Data), .v (.bool s.Ready), .v (.int .i64 s.Base), .v (.int .i64 s.Next), .v (.int .i64 s.Wait), .v (.bool s.Over)]] (.v (.int .i64 r)) := by
  unfold Sh.sender_Check at h
  refine yO 67 func17 fun g0 hn hio => ?_
  refine yyy hn 2 [1] ?_
  refine ht_seq ?_
  obtain ⟨v1, hv1, h⟩ := bind_some h
  refine yx hn 1 ?_
  refine ys 1 ⟨lk call33 (ok_sender_pieces _ _ hv1)⟩ ?_
  refine yee [1,3] ?_
  refine ht_seq ?_
  refine ht_block ?_
  refine ht_seq ?_
  refine ht_joinS h (fun (s32 : Bool) => [(6, .v (.bool s32))]) ?_ ?_
  ·rintro s32 h
   refine pt_then ?_
   refine ht_cond _ rfl (fun hb65 => ?_) (fun hb65 => ?_)
   ·have h := cond_t hb65 h
    refine yyy hn 1 [2] ?_
    refine ht_ret ?_
    refine pt_r_in ?_
    refine pt_r_then ?_
    obtain rfl := Option.some.inj h
    exact pt_ret hio rfl (.tmp _ _ .nil) rfl rfl
   ·have h := cond_f hb65 h
    refine ht_skip ?_
    refine pt_inb ?_
    refine pt_then ?_
    refine yyy hn 1 [2] ?_
    refine ht_ret ?_
    obtain rfl := Option.some.inj h
    exact pt_ret hio rfl (.tmp _ _ .nil) rfl rfl
  ·intro u33 h hl34 hr35
   refine ht_seq ?_
   refine ht_joinS h (fun (s36 : Bool) => [(1, .box 24 [.v (.int .i64 s.Number), .fl .shr 1 (List.map (Value.int .u8) s.Data), .v (.bool s.Ready), .v (.int .i64 s.Base), .v (.int .i64 s.Next), .v (.int .i64 s.Wait), .v (.bool s.Over)]), (3, .v (.int .i64 v1)), (6, .v (.bool s36))]) ?_ ?_
   ·rintro s36 h
    refine pt_then ?_
    refine ht_cond _ rfl (fun hb40 => ?_) (fun hb40 => ?_)
    ·have h := cond_t hb40 h
     refine ht_skip ?_
     refine pt_pick [2] (by kernel_rfl) (es' := [(_,_)]) rfl ?_
     exact hl34 _ (Option.some.inj h).symm
    ·have h := cond_f hb40 h
     refine ht_seq ?_
     refine ht_joinS h (fun (s41 : Bool) => [(1, .box 24 [.v (.int .i64 s.Number), .fl .shr 1 (List.map (Value.int .u8) s.Data), .v (.bool s.Ready), .v (.int .i64 s.Base), .v (.int .i64 s.Next), .v (.int .i64 s.Wait), .v (.bool s.Over)]), (3, .v (.int .i64 v1)), (6, .v (.bool s41))]) ?_ ?_
     ·rintro s41 h
      refine pt_then ?_
      refine ht_cond _ rfl (fun hb45 => ?_) (fun hb45 => ?_)
      ·have h := cond_t hb45 h
       refine ht_skip ?_
       refine pt_pick [2] (by kernel_rfl) (es' := [(_,_)]) rfl ?_
       exact hl34 _ (Option.some.inj h).symm
      ·have h := cond_f hb45 h
       refine ht_seq ?_
       refine ht_joinS h (fun (s46 : Bool) => [(1, .box 24 [.v (.int .i64 s.Number), .fl .shr 1 (List.map (Value.int .u8) s.Data), .v (.bool s.Ready), .v (.int .i64 s.Base), .v (.int .i64 s.Next), .v (.int .i64 s.Wait), .v (.bool s.Over)]), (6, .v (.bool s46))]) ?_ ?_
       ·rintro s46 h
        refine pt_then ?_
        refine ht_cond _ rfl (fun hb50 => ?_) (fun hb50 => ?_)
        ·have h := cond_t hb50 h
         refine ht_skip ?_
         refine pt_pick [1] (by kernel_rfl) (es' := [(_,_)]) rfl ?_
         exact hl34 _ (Option.some.inj h).symm
        ·have h := cond_f hb50 h
         refine ht_seq ?_
         refine ht_joinS h (fun (s51 : Bool) => [(1, .box 24 [.v (.int .i64 s.Number), .fl .shr 1 (List.map (Value.int .u8) s.Data), .v (.bool s.Ready), .v (.int .i64 s.Base), .v (.int .i64 s.Next), .v (.int .i64 s.Wait), .v (.bool s.Over)]), (6, .v (.bool s51))]) ?_ ?_
         ·rintro s51 h
          refine pt_then ?_
          refine ht_cond _ rfl (fun hb55 => ?_) (fun hb55 => ?_)
          ·have h := cond_t hb55 h
           refine ht_skip ?_
           refine pt_pick [1] (by kernel_rfl) (es' := [(_,_)]) rfl ?_
           exact hl34 _ (Option.some.inj h).symm
          ·have h := cond_f hb55 h
           refine ht_seq ?_
           refine ht_joinS h (fun (s56 : Bool) => [(1, .box 24 [.v (.int .i64 s.Number), .fl .shr 1 (List.map (Value.int .u8) s.Data), .v (.bool s.Ready), .v (.int .i64 s.Base), .v (.int .i64 s.Next), .v (.int .i64 s.Wait), .v (.bool s.Over)]), (6, .v (.bool s56))]) ?_ ?_
           ·rintro s56 h
            refine pt_then ?_
            refine ht_cond _ rfl (fun hb60 => ?_) (fun hb60 => ?_)
            ·have h := cond_t hb60 h
             refine ht_skip ?_
             refine pt_pick [1] (by kernel_rfl) (es' := [(_,_)]) rfl ?_
             exact hl34 _ (Option.some.inj h).symm
            ·have h := cond_f hb60 h
             refine ht_joinS h (fun (s61 : Bool) => [(6, .v (.bool s61))]) ?_ ?_
             ·rintro s61 h
              exact hl34 _ (Option.some.inj h).symm
             ·intro u62 h hl63 hr64
              refine cond_some h (fun hg7_3 h => ?_) (fun hg7_3 h => ?_)
              ·refine cond_some h (fun hg7_7 h => ?_) (fun hg7_7 h => ?_)
               ·refine yx hn 4 ?_
                refine yd hg7_3 4 ?_
                refine yd hg7_7 5 ?_
                refine yw [6] 1 ?_
                refine ye [6] ?_
                exact hl63 _ (Option.some.inj h).symm
               ·refine yx hn 4 ?_
                refine yd hg7_3 4 ?_
                refine yd hg7_7 5 ?_
                refine yw [6] 1 ?_
                refine ye [6] ?_
                exact hl63 _ (Option.some.inj h).symm
              ·refine yx hn 4 ?_
               refine yd hg7_3 9 ?_
               refine yw [6] 1 ?_
               refine ye [6] ?_
               exact hl63 _ (Option.some.inj h).symm
           ·intro u57 h hl58 hr59
            refine cond_some h (fun hg6_3 h => ?_) (fun hg6_3 h => ?_)
            ·refine yx hn 4 ?_
             refine yd hg6_3 4 ?_
             refine yw [6] 1 ?_
             refine ye [1,6] ?_
             exact hl58 _ (Option.some.inj h).symm
            ·refine yx hn 4 ?_
             refine yd hg6_3 4 ?_
             refine yw [6] 1 ?_
             refine ye [1,6] ?_
             exact hl58 _ (Option.some.inj h).symm
         ·intro u52 h hl53 hr54
          refine cond_some h (fun hg5_5 h => ?_) (fun hg5_5 h => ?_)
          ·refine wb [[1],[34,1],[1],[36,1],[35,37],[38]] ?_
           refine wd hg5_5 [[39],[39],[39],[39],[39],[39]] ?_
           refine wK [6] [45] ?_
           refine wt [(6, .v (.bool true))] [] ⟨LOp.drop [_] (op_assign _ _ _ _ rfl rfl)⟩ ?_
           refine we hn [1,6] ?_
           exact hl53 _ (Option.some.inj h).symm
          ·obtain ⟨v17, hv17, h⟩ := bind_some h
           refine wb [[1],[34,1],[1],[36,1],[35,37],[38]] ?_
           refine wd hg5_5 [[39,1],[39,40,1],[39,1]] ?_
           refine wN [39,42] ?_
           refine wo [[39,41,43],[39,44]] ⟨lk call32 (ok_sender_window _ _ hv17)⟩ ?_
           refine wK [6] [45] ?_
           refine wt [(6, .v (.bool ((decide (v17 < s.Next)))))] [] ⟨LOp.drop [_] (op_assign _ _ _ _ rfl rfl)⟩ ?_
           refine we hn [1,6] ?_
           exact hl53 _ (Option.some.inj h).symm
       ·intro u47 h hl48 hr49
        refine cond_some h (fun hg4_3 h => ?_) (fun hg4_3 h => ?_)
        ·refine yx hn 4 ?_
         refine yd hg4_3 5 ?_
         refine yw [6] 1 ?_
         refine ye [1,6] ?_
         exact hl48 _ (Option.some.inj h).symm
        ·refine yx hn 4 ?_
         refine yd hg4_3 5 ?_
         refine yw [6] 1 ?_
         refine ye [1,6] ?_
         exact hl48 _ (Option.some.inj h).symm
     ·intro u42 h hl43 hr44
      refine cond_some h (fun hg3_4 h => ?_) (fun hg3_4 h => ?_)
      ·refine yx hn 5 ?_
       refine yd hg3_4 5 ?_
       refine yw [6] 1 ?_
       refine ye [1,3,6] ?_
       exact hl43 _ (Option.some.inj h).symm
      ·refine yx hn 5 ?_
       refine yd hg3_4 5 ?_
       refine yw [6] 1 ?_
       refine ye [1,3,6] ?_
       exact hl43 _ (Option.some.inj h).symm
   ·intro u37 h hl38 hr39
    refine cond_some h (fun hg2_3 h => ?_) (fun hg2_3 h => ?_)
    ·refine yx hn 4 ?_
     refine yd hg2_3 5 ?_
     refine ye [1,3,6] ?_
     exact hl38 _ (Option.some.inj h).symm
    ·refine yx hn 4 ?_
     refine yd hg2_3 5 ?_
     refine ye [1,3,6] ?_
     exact hl38 _ (Option.some.inj h).symm
theorem ok_clone_List_byte (l : (List Int)) (r : (List Int)) (h : Sh.clone_List_byte l = some r) : FnOK Try.prog 39 [.fl .shr 1 (List.map (Value.int .u8) l)] (.fl (.own 5) 1 (List.map (Value.int .u8) r)) := by
  unfold Sh.clone_List_byte at h
  refine yO 5 func39 fun g0 hn hio => ?_
  refine yyy hn 1 [0] ?_
  refine ht_seq ?_
  obtain ⟨v1, hv1, h⟩ := bind_some h
  refine yx hn 1 ?_
  refine yS (.fl (.own 5) 1 (List.map (Value.int .u8) v1)) 0 ⟨op_app_nil _ _ _ _ el22 rfl rfl (map_len _) hv1 (congrArg (List.map _) (app_nil_eq hv1))⟩ ?_
  refine ya 0 ?_
  refine yee [2] ?_
  refine ht_ret ?_
  obtain rfl := Option.some.inj h
  exact pt_ret hio rfl (.tmp _ _ .nil) rfl rfl
theorem ok_clone_Send (s : T_Send) (r : T_Send) (h : Sh.clone_Send s = some r) : FnOK Try.prog 31 [.agg [.v (.int .i64 s.Number), .fl .shr 1 (List.map (Value.int .u8) s.Data), .v (.bool s.Ready), .v (.int .i64 s.Base), .v (.int .i64 s.Next), .v (.int .i64 s.Wait), .v (.bool s.Over)]] (.agg [.v (.int .i64 r.Number), .fl (.own 5) 1 (List.map (Value.int .u8) r.Data), .v (.bool r.Ready), .v (.int .i64 r.Base), .v (.int .i64 r.Next), .v (.int .i64 r.Wait), .v (.bool r.Over)]) := by
  unfold Sh.clone_Send at h
  refine yO 8 func31 fun g0 hn hio => ?_
  refine yxx hn 1 ?_
  refine yS (.box 24 [.v (.int .i64 0), .v (.slice none 0 0), .v (.bool false), .v (.int .i64 0), .v (.int .i64 0), .v (.int .i64 0), .v (.bool false)]) 0 ⟨oA (op_alloc _ _ zr24)⟩ ?_
  refine yee [1,2] ?_
  refine ht_seq ?_
  obtain ⟨v1, hv1, h⟩ := bind_some h
  refine yx hn 2 ?_
  refine ys 1 ⟨lk call39 (ok_clone_List_byte _ _ hv1)⟩ ?_
  refine yk [5,1] [6] ?_
  refine yt (1, .box 24 [.v (.int .i64 s.Number), .fl (.own 5) 1 (List.map (Value.int .u8) v1), .v (.bool s.Ready), .v (.int .i64 s.Base), .v (.int .i64 s.Next), .v (.int .i64 s.Wait), .v (.bool s.Over)]) 0 ⟨op_store_take _ _ _ _ _ _ _ _ sz22 rfl rfl rfl (zl rfl) rfl rfl⟩ ?_
  refine yee [1,2] ?_
  refine yxx hn 0 ?_
  refine yk [1] [] ?_
  refine yt (7, .agg [.v (.int .i64 s.Number), .fl (.own 5) 1 (List.map (Value.int .u8) v1), .v (.bool s.Ready), .v (.int .i64 s.Base), .v (.int .i64 s.Next), .v (.int .i64 s.Wait), .v (.bool s.Over)]) 0 ⟨op_loadA_take _ _ _ _ underlying24 rfl sz24 rfl rfl⟩ ?_
  refine yk [7,2] [] ?_
  refine yt (2, .box 24 [.v (.int .i64 s.Number), .fl (.own 5) 1 (List.map (Value.int .u8) v1), .v (.bool s.Ready), .v (.int .i64 s.Base), .v (.int .i64 s.Next), .v (.int .i64 s.Wait), .v (.bool s.Over)]) 0 ⟨op_store_take _ _ _ _ _ _ _ _ sz24 rfl rfl rfl (zl rfl) rfl rfl⟩ ?_
  refine yee [2] ?_
  refine ht_ret ?_
  obtain rfl := Option.some.inj h
  exact pt_ret hio rfl (.cellA _ _ _ _ underlying24 rfl sz24 .nil) rfl rfl
theorem ok_sender_hello (s : T_Send) (r : T_Frame) (h : Sh.sender_hello s = some r) : FnOK Try.prog 34 [.agg [.v (.int .i64 s.Number), .fl .shr 1 (List.map (Value.int .u8) s.Data), .v (.bool s.Ready), .v (.int .i64 s.Base), .v (.int .i64 s.Next), .v (.int .i64 s.Wait), .v (.bool s.Over)]] (.agg [.v (.int .i64 r.Kind), .v (.int .i64 r.Number), .v (.int .i64 r.Offset), .v (.int .i64 r.Seq), .fl (.own 5) 1 (List.map (Value.int .u8) r.Data)]) := by
  unfold Sh.sender_hello at h
  refine yO 9 func34 fun g0 hn hio => ?_
  refine yxx hn 1 ?_
  refine yS (.box 26 [.v (.int .i64 0), .v (.int .i64 0), .v (.int .i64 0), .v (.int .i64 0), .v (.slice none 0 0)]) 0 ⟨oA (op_alloc _ _ zr26)⟩ ?_
  refine yee [1,2] ?_
  refine yxx hn 5 ?_
  refine yS (.agg [.v (.int .i64 1), .v (.int .i64 s.Number), .v (.int .i64 (s.Data.length : Int)), .v (.int .i64 0), .v (.slice none 0 0)]) 1 ⟨op_build _ _ _ _ [1, 1, 1, 1, 1] _ _ underlying26 zr26 (fs26 _ underlying26) (.copy _ (.copy _ (.copy _ Src.nil))) rfl rfl rfl⟩ ?_
  refine yee [2] ?_
  refine ht_ret ?_
  refine pt_sub (fs := [(2, .box 26 [.v (.int .i64 1), .v (.int .i64 s.Number), .v (.int .i64 (s.Data.length : Int)), .v (.int .i64 0), .fl (.own 5) 1 (List.map (Value.int .u8) [])])]) (.box _ _ (subs_cons (sub_refl _) (subs_cons (sub_refl _) (subs_cons (sub_refl _) (subs_cons (sub_refl _) (subs_cons (sub_nil 5 1) (subs_nil)))))) rfl .nil) ?_
  obtain rfl := Option.some.inj h
  exact pt_ret hio rfl (.cellA _ _ _ _ underlying26 rfl sz26 .nil) rfl rfl
theorem ok_sender_piece (s : T_Send) (i : Int) (r : T_Frame) (h : Sh.sender_piece s i = some r) : FnOK Try.prog 35 [.agg [.v (.int .i64 s.Number), .fl .shr 1 (List.map (Value.int .u8) s.Data), .v (.bool s.Ready), .v (.int .i64 s.Base), .v (.int .i64 s.Next), .v (.int .i64 s.Wait), .v (.bool s.Over)], .v (.int .i64 i)] (.agg [.v (.int .i64 r.Kind), .v (.int .i64 r.Number), .v (.int .i64 r.Offset), .v (.int .i64 r.Seq), .fl (.own 5) 1 (List.map (Value.int .u8) r.Data)]) := by
  unfold Sh.sender_piece at h
  refine yO 27 func35 fun g0 hn hio => ?_
  refine yxx hn 1 ?_
  refine yS (.box 26 [.v (.int .i64 0), .v (.int .i64 0), .v (.int .i64 0), .v (.int .i64 0), .v (.slice none 0 0)]) 0 ⟨oA (op_alloc _ _ zr26)⟩ ?_
  refine yee [1,2,4] ?_
  refine ht_seq ?_
  obtain ⟨v1, hv1, h⟩ := bind_some h
  refine yx hn 1 ?_
  refine ys 1 ⟨lb hv1⟩ ?_
  refine yee [1,2,4,5] ?_
  refine ht_seq ?_
  obtain ⟨v2, hv2, h⟩ := bind_some h
  obtain ⟨v3, hv3, h⟩ := bind_some h
  refine yx hn 1 ?_
  refine ys 3 ⟨lb hv2⟩ ?_
  refine yS (.v (.int .i64 v3)) 1 ⟨(Option.some.inj hv3) ▸ op_min _ _ _ _ rfl rfl⟩ ?_
  refine yee [1,2,4,5,6] ?_
  refine ht_seq ?_
  obtain ⟨v4, hv4, h⟩ := bind_some h
  obtain ⟨v5, hv5, h⟩ := bind_some h
  obtain ⟨v6, hv6, h⟩ := bind_some h
  refine wb [[2],[15,2],[5],[1]] ?_
  refine wN [18] ?_
  refine wo [[2],[20,2],[5],[6]] ⟨lB (rem_ok hv4)⟩ ?_
  refine wN [21,22,23] ?_
  refine wS (.fl .shr 1 (List.map (Value.int .u8) v5)) [] ⟨op_sl _ _ _ v1 v3 _ underlying22 sz5 rfl rfl ⟨_, rfl⟩ ⟨_, rfl⟩ hv5⟩ ?_
  refine wN [24] ?_
  refine wo [] ⟨lk call39 (ok_clone_List_byte _ _ hv6)⟩ ?_
  refine wK [25] [16,17,19] ?_
  refine wt [(26, .agg [.v (.int .i64 3), .v (.int .i64 s.Number), .v (.int .i64 v1), .v (.int .i64 v4), .fl (.own 5) 1 (List.map (Value.int .u8) v6)])] [] ⟨op_build _ _ _ _ [1, 1, 1, 1, 1] _ _ underlying26 zr26 (fs26 _ underlying26) (.copy _ (.copy _ (.copy _ (.copy _ (.take _ _ Src.nil))))) rfl rfl rfl⟩ ?_
  refine wK [26,4] [] ?_
  refine wt [(4, .box 26 [.v (.int .i64 3), .v (.int .i64 s.Number), .v (.int .i64 v1), .v (.int .i64 v4), .fl (.own 5) 1 (List.map (Value.int .u8) v6)])] [] ⟨op_store_take _ _ _ _ _ _ _ _ sz26 rfl rfl rfl (zl rfl) rfl rfl⟩ ?_
  refine wee hn [4] ?_
  refine ht_ret ?_
  obtain rfl := Option.some.inj h
  exact pt_ret hio rfl (.cellA _ _ _ _ underlying26 rfl sz26 .nil) rfl rfl
theorem ok_sender_Tick (s : T_Send) (r : (T_Send × (List T_Frame) × Int)) (h : Sh.sender_Tick s = some r) : FnOK Try.prog 14 [.agg [.v (.int .i64 s.Number), .fl .shr 1 (List.map (Value.int .u8) s.Data), .v (.bool s.Ready), .v (.int .i64 s.Base), .v (.int .i64 s.Next), .v (.int .i64 s.Wait), .v (.bool s.Over)]] (.tup [.agg [.v (.int .i64 r.1.Number), .fl (.own 5) 1 (List.map (Value.int .u8) r.1.Data), .v (.bool r.1.Ready), .v (.int .i64 r.1.Base), .v (.int .i64 r.1.Next), .v (.int .i64 r.1.Wait), .v (.bool r.1.Over)], .hid (ownJ 26 5 (List.flatten (List.map oe26 r.2.1))), .v (.int .i64 r.2.2)]) := by
  unfold Sh.sender_Tick at h
  refine yO 86 func14 fun g0 hn hio => ?_
  refine yxx hn 1 ?_
  refine yS (.box 24 [.v (.int .i64 0), .v (.slice none 0 0), .v (.bool false), .v (.int .i64 0), .v (.int .i64 0), .v (.int .i64 0), .v (.bool false)]) 2 ⟨oA (op_alloc _ _ zr24)⟩ ?_
  refine yee [1,2] ?_
  refine ht_seq ?_
  refine ht_seq ?_
  obtain ⟨v1, hv1, h⟩ := bind_some h
  refine yx hn 1 ?_
  refine ys 1 ⟨lk call17 (ok_sender_Check _ _ hv1)⟩ ?_
  refine yee [1,2,5] ?_
  refine yyy hn 2 [1,2,5,12] ?_
  refine ht_cond _ rfl (fun hb2 => ?_) (fun hb2 => ?_)
  ·have h := cond_t hb2 h
   refine yxx hn 0 ?_
   refine yS (.agg [.v (.int .i64 0), .v (.slice none 0 0), .v (.bool false), .v (.int .i64 0), .v (.int .i64 0), .v (.int .i64 0), .v (.bool false)]) 1 ⟨op_build _ _ _ _ [1, 1, 1, 1, 1, 1, 1] _ _ underlying24 zr24 (fs24 _ underlying24) Src.nil rfl rfl rfl⟩ ?_
   refine yk [13,2] [] ?_
   refine yt (2, .box 24 [.v (.int .i64 0), .v (.slice none 0 0), .v (.bool false), .v (.int .i64 0), .v (.int .i64 0), .v (.int .i64 0), .v (.bool false)]) 2 ⟨op_store_self _ _ _ 13 2 7 sz24 rfl rfl rfl rfl rfl (.eq _ (.eq _ (.eq _ (.eq _ (.eq _ (.eq _ (.eq _ (.nil _)))))))) rfl⟩ ?_
   refine yee [2,3,4] ?_
   refine ht_ret ?_
   refine pt_sub (fs := [(2, .box 24 [.v (.int .i64 0), .fl (.own 5) 1 (List.map (Value.int .u8) []), .v (.bool false), .v (.int .i64 0), .v (.int .i64 0), .v (.int .i64 0), .v (.bool false)]), (3, .hid (ownJ 26 5 (List.flatten (List.map oe26 [])))), (4, .v (.int .i64 v1))]) (.box _ _ (subs_cons (sub_refl _) (subs_cons (sub_nil 5 1) (subs_cons (sub_refl _) (subs_cons (sub_refl _) (subs_cons (sub_refl _) (subs_cons (sub_refl _) (subs_cons (sub_refl _) (subs_nil)))))))) rfl (.sub _ (sub_nil_oe 26 5 oe26) rfl (.same _ .nil))) ?_
   refine pt_r_then ?_
   obtain rfl := Option.some.inj h
   exact pt_ret hio rfl (.cellA _ _ _ _ underlying24 rfl sz24 (.tmp _ _ (.tmp _ _ .nil))) rfl rfl
  ·have h := cond_f hb2 h
   refine ht_skip ?_
   refine pt_then (ht_seq ?_)
   obtain ⟨v3, hv3, h⟩ := bind_some h
   refine yx hn 1 ?_
   refine ys 0 ⟨lk call31 (ok_clone_Send _ _ hv3)⟩ ?_
   refine yk [16,1] [] ?_
   refine yt (1, .box 24 [.v (.int .i64 v3.Number), .fl (.own 5) 1 (List.map (Value.int .u8) v3.Data), .v (.bool v3.Ready), .v (.int .i64 v3.Base), .v (.int .i64 v3.Next), .v (.int .i64 v3.Wait), .v (.bool v3.Over)]) 0 ⟨op_store_take _ _ _ _ _ _ _ _ sz24 rfl rfl rfl (zl rfl) rfl rfl⟩ ?_
   refine yee [1,2] ?_
   refine ht_seq ?_
   obtain ⟨v4, hv4, h⟩ := bind_some h
   refine yx hn 1 ?_
   refine ys 1 ⟨lk call32 (ok_sender_window _ _ hv4)⟩ ?_
   refine yee [1,2,6] ?_
   refine yyy hn 1 [1,2,6,7] ?_
   refine ht_seq ?_
   refine ht_joinS h (fun ((s39, s40, s41, s42, s43) : Bool × Int × Int × Int × (List T_Frame)) => [(1, .box 24 [.v (.int .i64 v3.Number), .fl (.own 5) 1 (List.map (Value.int .u8) v3.Data), .v (.bool s39), .v (.int .i64 s40), .v (.int .i64 s41), .v (.int .i64 s42), .v (.bool v3.Over)]), (2, .box 24 [.v (.int .i64 0), .v (.slice none 0 0), .v (.bool false), .v (.int .i64 0), .v (.int .i64 0), .v (.int .i64 0), .v (.bool false)]), (7, .hid (ownJ 26 5 (List.flatten (List.map oe26 s43))))]) ?_ ?_
   ·rintro ⟨s39, s40, s41, s42, s43⟩ h
    refine pt_then ?_
    refine yxx hn 0 ?_
    refine yk [1] [] ?_
    refine yt (84, .agg [.v (.int .i64 v3.Number), .fl (.own 5) 1 (List.map (Value.int .u8) v3.Data), .v (.bool s39), .v (.int .i64 s40), .v (.int .i64 s41), .v (.int .i64 s42), .v (.bool v3.Over)]) 0 ⟨op_loadA_take _ _ _ _ underlying24 rfl sz24 rfl rfl⟩ ?_
    refine ym 0 ?_
    refine yk [84,2] [] ?_
    refine yt (2, .box 24 [.v (.int .i64 v3.Number), .fl (.own 5) 1 (List.map (Value.int .u8) v3.Data), .v (.bool s39), .v (.int .i64 s40), .v (.int .i64 s41), .v (.int .i64 s42), .v (.bool v3.Over)]) 0 ⟨op_store_take _ _ _ _ _ _ _ _ sz24 rfl rfl rfl (zl rfl) rfl rfl⟩ ?_
    refine ya 1 ?_
    refine yee [2,3,4] ?_
    refine ht_ret ?_
    obtain rfl := Option.some.inj h
    exact pt_ret hio rfl (.cellA _ _ _ _ underlying24 rfl sz24 (.tmp _ _ (.tmp _ _ .nil))) rfl rfl
   ·intro u44 h hl45 hr46
    refine ht_block ?_
    refine yyy hn 3 [1,2,6,7,23] ?_
    refine ht_cond _ rfl (fun hb47 => ?_) (fun hb47 => ?_)
    ·have h := cond_t hb47 h
     refine ht_skip ?_
     refine pt_inb ?_
     refine pt_pick [0, 1, 3] (by kernel_rfl) (es' := [(_,_),(_,_),(_,_)]) rfl ?_
     refine pt_sub (fs := [(1, .box 24 [.v (.int .i64 v3.Number), .fl (.own 5) 1 (List.map (Value.int .u8) v3.Data), .v (.bool v3.Ready), .v (.int .i64 v3.Base), .v (.int .i64 v3.Next), .v (.int .i64 v3.Wait), .v (.bool v3.Over)]), (2, .box 24 [.v (.int .i64 0), .v (.slice none 0 0), .v (.bool false), .v (.int .i64 0), .v (.int .i64 0), .v (.int .i64 0), .v (.bool false)]), (7, .hid (ownJ 26 5 (List.flatten (List.map oe26 []))))]) (.same _ (.same _ (.sub _ (sub_nil_oe 26 5 oe26) rfl .nil))) ?_
     exact hl45 _ (Option.some.inj h).symm
    ·have h := cond_f hb47 h
     refine ht_seq ?_
     refine ht_joinS h (fun (s48 : Bool) => [(1, .box 24 [.v (.int .i64 v3.Number), .fl (.own 5) 1 (List.map (Value.int .u8) v3.Data), .v (.bool v3.Ready), .v (.int .i64 v3.Base), .v (.int .i64 v3.Next), .v (.int .i64 v3.Wait), .v (.bool v3.Over)]), (2, .box 24 [.v (.int .i64 0), .v (.slice none 0 0), .v (.bool false), .v (.int .i64 0), .v (.int .i64 0), .v (.int .i64 0), .v (.bool false)]), (6, .v (.int .i64 v4)), (7, .v (.slice none 0 0)), (26, .v (.bool s48))]) ?_ ?_
     ·rintro s48 h
      refine pt_then ?_
      refine ht_cond _ rfl (fun hb52 => ?_) (fun hb52 => ?_)
      ·have h := cond_t hb52 h
       refine ht_seq ?_
       refine yyy hn 3 [1,2,7,39] ?_
       refine ht_cond _ rfl (fun hb53 => ?_) (fun hb53 => ?_)
       ·have h := cond_t hb53 h
        refine ht_seq ?_
        obtain ⟨v13, hv13, h⟩ := bind_some h
        refine yx hn 2 ?_
        refine ys 2 ⟨lb hv13⟩ ?_
        refine yee [1,2,7] ?_
        refine ht_exit ?_
        refine pt_x_then ?_
        refine pt_x_in ?_
        refine pt_sub (fs := [(1, .box 24 [.v (.int .i64 v3.Number), .fl (.own 5) 1 (List.map (Value.int .u8) v3.Data), .v (.bool v3.Ready), .v (.int .i64 v3.Base), .v (.int .i64 v3.Next), .v (.int .i64 v13), .v (.bool v3.Over)]), (2, .box 24 [.v (.int .i64 0), .v (.slice none 0 0), .v (.bool false), .v (.int .i64 0), .v (.int .i64 0), .v (.int .i64 0), .v (.bool false)]), (7, .hid (ownJ 26 5 (List.flatten (List.map oe26 []))))]) (.same _ (.same _ (.sub _ (sub_nil_oe 26 5 oe26) rfl .nil))) ?_
        exact hl45 _ (Option.some.inj h).symm
       ·have h := cond_f hb53 h
        refine ht_skip ?_
        refine pt_then (ht_seq ?_)
        obtain ⟨v14, hv14, h⟩ := bind_some h
        obtain ⟨v15, hv15, h⟩ := bind_some h
        refine yx hn 2 ?_
        refine ys 0 ⟨lk call34 (ok_sender_hello _ _ hv14)⟩ ?_
        refine yk [46] [] ?_
        refine yt (47, .hid (ownJ 26 5 (List.flatten (List.map oe26 [v14])))) 0 ⟨op_build1_own _ _ _ 5 (.agg #[.int .i64 0, .int .i64 0, .int .i64 0, .int .i64 0, .slice none 0 0]) _ (List.flatten (List.map oe26 [v14])) underlying31 sz26 zr26 rfl rfl rfl (by decide) (by decide) rfl⟩ ?_
        refine yk [47] [44] ?_
        refine ytt (47, .any) (48, .hid (ownJ 26 5 (List.flatten (List.map oe26 v15)))) 0 ⟨op_app_own_nil _ 48 47 _ el31 rfl (gflat_len oe26_l _) hv15 rfl (congrArg (fun l => List.flatten (List.map oe26 l)) (app_nil_eq hv15))⟩ ?_
        refine yw [7] 0 ?_
        refine ya 0 ?_
        refine yee [1,2,7] ?_
        refine yy hn 2 [1,2,7] ?_
        refine pt_inb ?_
        exact hl45 _ (Option.some.inj h).symm
      ·have h := cond_f hb52 h
       refine yyy hn 5 [1,2,6,7,50] ?_
       refine ht_cond _ rfl (fun hb54 => ?_) (fun hb54 => ?_)
       ·have h := cond_t hb54 h
        refine ht_seq ?_
        refine yyy hn 3 [1,2,6,7,8] ?_
        refine ht_sub (fs := [(1, .box 24 [.v (.int .i64 v3.Number), .fl (.own 5) 1 (List.map (Value.int .u8) v3.Data), .v (.bool v3.Ready), .v (.int .i64 v3.Base), .v (.int .i64 v3.Next), .v (.int .i64 v3.Wait), .v (.bool v3.Over)]), (2, .box 24 [.v (.int .i64 0), .v (.slice none 0 0), .v (.bool false), .v (.int .i64 0), .v (.int .i64 0), .v (.int .i64 0), .v (.bool false)]), (6, .v (.int .i64 v4)), (7, .hid (ownJ 26 5 (List.flatten (List.map oe26 [])))), (8, .v (.int .i64 v3.Next))]) (.same _ (.same _ (.same _ (.sub _ (sub_nil_oe 26 5 oe26) rfl (.same _ .nil))))) ?_
        refine ht_loopS h (fun ((s59, s60) : (List T_Frame) × Int) => [(1, .box 24 [.v (.int .i64 v3.Number), .fl (.own 5) 1 (List.map (Value.int .u8) v3.Data), .v (.bool v3.Ready), .v (.int .i64 v3.Base), .v (.int .i64 v3.Next), .v (.int .i64 v3.Wait), .v (.bool v3.Over)]), (2, .box 24 [.v (.int .i64 0), .v (.slice none 0 0), .v (.bool false), .v (.int .i64 0), .v (.int .i64 0), .v (.int .i64 0), .v (.bool false)]), (6, .v (.int .i64 v4)), (7, .hid (ownJ 26 5 (List.flatten (List.map oe26 s59)))), (8, .v (.int .i64 s60))]) (fun (s62 : (List T_Frame)) => [(1, .box 24 [.v (.int .i64 v3.Number), .fl (.own 5) 1 (List.map (Value.int .u8) v3.Data), .v (.bool v3.Ready), .v (.int .i64 v3.Base), .v (.int .i64 v3.Next), .v (.int .i64 v3.Wait), .v (.bool v3.Over)]), (2, .box 24 [.v (.int .i64 0), .v (.slice none 0 0), .v (.bool false), .v (.int .i64 0), .v (.int .i64 0), .v (.int .i64 0), .v (.bool false)]), (6, .v (.int .i64 v4)), (7, .hid (ownJ 26 5 (List.flatten (List.map oe26 s62))))]) ?_ ?_
        ·rintro s62 h
         refine pt_then ?_
         refine yyy hn 3 [1,2,7] ?_
         refine yy hn 2 [1,2,7] ?_
         refine pt_inb ?_
         exact hl45 _ (Option.some.inj h).symm
        ·rintro u63 hl64 hr65 ⟨s59, s60⟩ rr68 h ho66
         refine ht_seq ?_
         refine yyy hn 3 [1,2,6,7,8,59] ?_
         refine ht_cond _ rfl (fun hb69 => ?_) (fun hb69 => ?_)
         ·have h := cond_t hb69 h
          refine ht_skip ?_
          refine pt_then (ht_seq ?_)
          refine ht_block ?_
          obtain ⟨v18, hv18, h⟩ := bind_some h
          obtain ⟨v19, hv19, h⟩ := bind_some h
          refine yx hn 0 ?_
          refine ym 2 ?_
          refine ys 0 ⟨lk call35 (ok_sender_piece _ _ _ hv18)⟩ ?_
          refine yk [65] [] ?_
          refine yt (66, .hid (ownJ 26 5 (List.flatten (List.map oe26 [v18])))) 0 ⟨op_build1_own _ _ _ 5 (.agg #[.int .i64 0, .int .i64 0, .int .i64 0, .int .i64 0, .slice none 0 0]) _ (List.flatten (List.map oe26 [v18])) underlying31 sz26 zr26 rfl rfl rfl (by decide) (by decide) rfl⟩ ?_
          refine yk [62,66] [] ?_
          refine yn [(62, .any), (66, .any), (67, .hid (ownJ 26 5 (List.flatten (List.map oe26 v19))))] 0 ⟨op_app_own _ 67 62 66 el31 (gflat_len oe26_l _) (gflat_len oe26_l _) hv19 (gflat_app (app_eq hv19))⟩ ?_
          refine ya 0 ?_
          refine ye [1,2,6,8,7] ?_
          refine pt_inb ?_
          refine pt_then ?_
          obtain ⟨v20, hv20, h⟩ := bind_some h
          refine yx hn 1 ?_
          refine ys 0 ⟨lb hv20⟩ ?_
          refine yw [8] 1 ?_
          refine ye [1,2,6,7,8] ?_
          exact pt_next _ (Option.some.inj h).symm rfl
         ·have h := cond_f hb69 h
          refine ht_exit ?_
          refine pt_x_then ?_
          refine pt_x_then ?_
          refine pt_x_in ?_
          refine pt_pick [0, 1, 2, 3] (by kernel_rfl) (es' := [(_,_),(_,_),(_,_),(_,_)]) rfl ?_
          exact hl64 _ (ho66 _ (Option.some.inj h).symm).symm
       ·have h := cond_f hb54 h
        refine yyy hn 4 [1,2,7,71] ?_
        refine ht_cond _ rfl (fun hb70 => ?_) (fun hb70 => ?_)
        ·have h := cond_t hb70 h
         refine ht_seq ?_
         obtain ⟨v36, hv36, h⟩ := bind_some h
         obtain ⟨v37, hv37, h⟩ := bind_some h
         refine yx hn 2 ?_
         refine ys 0 ⟨lk call34 (ok_sender_hello _ _ hv36)⟩ ?_
         refine yk [77] [] ?_
         refine yt (78, .hid (ownJ 26 5 (List.flatten (List.map oe26 [v36])))) 0 ⟨op_build1_own _ _ _ 5 (.agg #[.int .i64 0, .int .i64 0, .int .i64 0, .int .i64 0, .slice none 0 0]) _ (List.flatten (List.map oe26 [v36])) underlying31 sz26 zr26 rfl rfl rfl (by decide) (by decide) rfl⟩ ?_
         refine yk [78] [75] ?_
         refine ytt (78, .any) (79, .hid (ownJ 26 5 (List.flatten (List.map oe26 v37)))) 0 ⟨op_app_own_nil _ 79 78 _ el31 rfl (gflat_len oe26_l _) hv37 rfl (congrArg (fun l => List.flatten (List.map oe26 l)) (app_nil_eq hv37))⟩ ?_
         refine yw [7] 0 ?_
         refine ya 0 ?_
         refine yee [1,2,7] ?_
         refine yy hn 8 [1,2,7] ?_
         refine pt_inb ?_
         exact hl45 _ (Option.some.inj h).symm
        ·have h := cond_f hb70 h
         obtain ⟨v38, hv38, h⟩ := bind_some h
         refine yx hn 2 ?_
         refine ys 2 ⟨lb hv38⟩ ?_
         refine ye [1,2,7] ?_
         refine pt_inb ?_
         refine pt_sub (fs := [(1, .box 24 [.v (.int .i64 v3.Number), .fl (.own 5) 1 (List.map (Value.int .u8) v3.Data), .v (.bool v3.Ready), .v (.int .i64 v3.Base), .v (.int .i64 v3.Next), .v (.int .i64 v38), .v (.bool v3.Over)]), (2, .box 24 [.v (.int .i64 0), .v (.slice none 0 0), .v (.bool false), .v (.int .i64 0), .v (.int .i64 0), .v (.int .i64 0), .v (.bool false)]), (7, .hid (ownJ 26 5 (List.flatten (List.map oe26 []))))]) (.same _ (.same _ (.sub _ (sub_nil_oe 26 5 oe26) rfl .nil))) ?_
         exact hl45 _ (Option.some.inj h).symm
     ·intro u49 h hl50 hr51
      refine cond_some h (fun hg9_3 h => ?_) (fun hg9_3 h => ?_)
      ·refine wb [[1],[27,1],[28],[29]] ?_
       refine wd hg9_3 [[30],[30],[30],[30],[30],[30],[36]] ?_
       refine we hn [1,2,6,7,26] ?_
       exact hl50 _ (Option.some.inj h).symm
      ·obtain ⟨v6, hv6, h⟩ := bind_some h
       refine wb [[1],[27,1],[28],[29]] ?_
       refine wd hg9_3 [[30,1],[30,31,1],[30,1]] ?_
       refine wN [30,33,1] ?_
       refine wo [[30,32,34],[30,35],[36]] ⟨lk call33 (ok_sender_pieces _ _ hv6)⟩ ?_
       refine we hn [1,2,6,7,26] ?_
       exact hl50 _ (Option.some.inj h).symm
theorem ok_frame_Check (f : T_Frame) (r : Int) (h : Sh.frame_Check f = some r) : FnOK Try.prog 36 [.agg [.v (.int .i64 f.Kind), .v (.int .i64 f.Number), .v (.int .i64 f.Offset), .v (.int .i64 f.Seq), .fl .shr 1 (List.map (Value.int .u8) f.Data)]] (.v (.int .i64 r)) := by
  unfold Sh.frame_Check at h
  refine yO 93 func36 fun g0 hn hio => ?_
  refine yyy hn 2 [1] ?_
  refine ht_seq ?_
  refine wb [[1],[9,1],[10],[1],[12,1],[13],[1],[15,1],[16],[17],[11],[14],[18]] ?_
  refine wee hn [1,3,4,5] ?_
  refine ht_seq ?_
  refine ht_joinS h (fun (s1 : Bool) => [(1, .box 26 [.v (.int .i64 f.Kind), .v (.int .i64 f.Number), .v (.int .i64 f.Offset), .v (.int .i64 f.Seq), .fl .shr 1 (List.map (Value.int .u8) f.Data)]), (3, .v (.bool (f.Offset == 0))), (4, .v (.bool (f.Seq == 0))), (5, .v (.bool (((f.Data.length : Int) == 0)))), (6, .v (.bool s1))]) ?_ ?_
  ·rintro s1 h
   refine pt_then (ht_seq ?_)
   refine ht_joinS h (fun (s5 : Bool) => [(1, .box 26 [.v (.int .i64 f.Kind), .v (.int .i64 f.Number), .v (.int .i64 f.Offset), .v (.int .i64 f.Seq), .fl .shr 1 (List.map (Value.int .u8) f.Data)]), (3, .v (.bool (f.Offset == 0))), (4, .v (.bool (f.Seq == 0))), (5, .v (.bool (((f.Data.length : Int) == 0)))), (6, .v (.bool s1)), (7, .v (.bool s5))]) ?_ ?_
   ·rintro s5 h
    refine pt_then ?_
    refine yyy hn 1 [1,3,4,5,6,7,8] ?_
    refine ht_seq ?_
    refine ht_joinS h (fun (s65 : Bool) => [(1, .box 26 [.v (.int .i64 f.Kind), .v (.int .i64 f.Number), .v (.int .i64 f.Offset), .v (.int .i64 f.Seq), .fl .shr 1 (List.map (Value.int .u8) f.Data)]), (8, .v (.bool s65))]) ?_ ?_
    ·rintro s65 h
     refine pt_then (ht_seq ?_)
     refine ht_seq ?_
     refine ht_joinS h (fun (s125 : Bool) => [(92, .v (.bool s125))]) ?_ ?_
     ·rintro s125 h
      refine pt_then ?_
      refine ht_cond _ rfl (fun hb129 => ?_) (fun hb129 => ?_)
      ·have h := cond_t hb129 h
       refine yyy hn 1 [2] ?_
       refine ht_ret ?_
       refine pt_r_then ?_
       obtain rfl := Option.some.inj h
       exact pt_ret hio rfl (.tmp _ _ .nil) rfl rfl
      ·have h := cond_f hb129 h
       refine ht_skip ?_
       refine pt_then ?_
       refine yyy hn 1 [2] ?_
       refine ht_ret ?_
       obtain rfl := Option.some.inj h
       exact pt_ret hio rfl (.tmp _ _ .nil) rfl rfl
     ·intro u126 h hl127 hr128
      refine cond_some h (fun hg15_2 h => ?_) (fun hg15_2 h => ?_)
      ·refine yx hn 3 ?_
       refine yd hg15_2 9 ?_
       refine ye [92] ?_
       exact hl127 _ (Option.some.inj h).symm
      ·refine cond_some h (fun hg15_7 h => ?_) (fun hg15_7 h => ?_)
       ·refine yx hn 3 ?_
        refine yd hg15_2 5 ?_
        refine yd hg15_7 4 ?_
        refine ye [92] ?_
        exact hl127 _ (Option.some.inj h).symm
       ·refine yx hn 3 ?_
        refine yd hg15_2 5 ?_
        refine yd hg15_7 4 ?_
        refine ye [92] ?_
        exact hl127 _ (Option.some.inj h).symm
    ·intro u66 h hl67 hr68
     refine yyy hn 2 [1,3,4,5,6,7,8,36] ?_
     refine ht_joinS h (fun (s95 : Bool) => [(1, .box 26 [.v (.int .i64 f.Kind), .v (.int .i64 f.Number), .v (.int .i64 f.Offset), .v (.int .i64 f.Seq), .fl .shr 1 (List.map (Value.int .u8) f.Data)]), (8, .v (.bool s95))]) ?_ ?_
     ·rintro s95 h
      exact hl67 _ (Option.some.inj h).symm
     ·intro u96 h hl97 hr98
      refine ht_block ?_
      refine ht_seq ?_
      refine ht_joinS h (fun (s100 : Bool) => [(1, .box 26 [.v (.int .i64 f.Kind), .v (.int .i64 f.Number), .v (.int .i64 f.Offset), .v (.int .i64 f.Seq), .fl .shr 1 (List.map (Value.int .u8) f.Data)]), (3, .v (.bool (f.Offset == 0))), (4, .v (.bool (f.Seq == 0))), (5, .v (.bool (((f.Data.length : Int) == 0)))), (6, .v (.bool s1)), (7, .v (.bool s5)), (8, .v (.bool false)), (36, .v (.int .i64 f.Kind)), (37, .v (.bool s100))]) ?_ ?_
      ·rintro s100 h
       refine pt_then ?_
       refine ht_cond _ rfl (fun hb105 => ?_) (fun hb105 => ?_)
       ·have h := cond_t hb105 h
        refine ht_joinS h (fun (s106 : Bool) => [(1, .box 26 [.v (.int .i64 f.Kind), .v (.int .i64 f.Number), .v (.int .i64 f.Offset), .v (.int .i64 f.Seq), .fl .shr 1 (List.map (Value.int .u8) f.Data)]), (8, .v (.bool s106))]) ?_ ?_
        ·rintro s106 h
         refine pt_inb ?_
         exact hl97 _ (Option.some.inj h).symm
        ·intro u107 h hl108 hr109
         refine cond_some h (fun hg8_1 h => ?_) (fun hg8_1 h => ?_)
         ·refine cond_some h (fun hg8_4 h => ?_) (fun hg8_4 h => ?_)
          ·refine yx hn 2 ?_
           refine yd hg8_1 3 ?_
           refine yd hg8_4 2 ?_
           refine yw [8] 1 ?_
           refine ye [1,8] ?_
           exact hl108 _ (Option.some.inj h).symm
          ·refine yx hn 2 ?_
           refine yd hg8_1 3 ?_
           refine yd hg8_4 2 ?_
           refine yw [8] 1 ?_
           refine ye [1,8] ?_
           exact hl108 _ (Option.some.inj h).symm
         ·refine yx hn 2 ?_
          refine yd hg8_1 5 ?_
          refine yw [8] 1 ?_
          refine ye [1,8] ?_
          exact hl108 _ (Option.some.inj h).symm
       ·have h := cond_f hb105 h
        refine yyy hn 2 [1,3,4,5,6,7,8,36,47] ?_
        refine ht_cond _ rfl (fun hb110 => ?_) (fun hb110 => ?_)
        ·have h := cond_t hb110 h
         refine ht_joinS h (fun (s111 : Bool) => [(1, .box 26 [.v (.int .i64 f.Kind), .v (.int .i64 f.Number), .v (.int .i64 f.Offset), .v (.int .i64 f.Seq), .fl .shr 1 (List.map (Value.int .u8) f.Data)]), (8, .v (.bool s111))]) ?_ ?_
         ·rintro s111 h
          refine pt_inb ?_
          exact hl97 _ (Option.some.inj h).symm
         ·intro u112 h hl113 hr114
          refine cond_some h (fun hg10_1 h => ?_) (fun hg10_1 h => ?_)
          ·refine cond_some h (fun hg10_4 h => ?_) (fun hg10_4 h => ?_)
           ·refine cond_some h (fun hg10_8 h => ?_) (fun hg10_8 h => ?_)
            ·refine yx hn 2 ?_
             refine yd hg10_1 3 ?_
             refine yd hg10_4 4 ?_
             refine yd hg10_8 5 ?_
             refine yw [8] 1 ?_
             refine ye [1,8] ?_
             exact hl113 _ (Option.some.inj h).symm
            ·refine yx hn 2 ?_
             refine yd hg10_1 3 ?_
             refine yd hg10_4 4 ?_
             refine yd hg10_8 5 ?_
             refine yw [8] 1 ?_
             refine ye [1,8] ?_
             exact hl113 _ (Option.some.inj h).symm
           ·refine yx hn 2 ?_
            refine yd hg10_1 3 ?_
            refine yd hg10_4 9 ?_
            refine yw [8] 1 ?_
            refine ye [1,8] ?_
            exact hl113 _ (Option.some.inj h).symm
          ·refine yx hn 2 ?_
           refine yd hg10_1 12 ?_
           refine yw [8] 1 ?_
           refine ye [1,8] ?_
           exact hl113 _ (Option.some.inj h).symm
        ·have h := cond_f hb110 h
         refine yyy hn 2 [1,3,4,5,7,8,36,63] ?_
         refine ht_cond _ rfl (fun hb115 => ?_) (fun hb115 => ?_)
         ·have h := cond_t hb115 h
          refine ht_joinS h (fun (s116 : Bool) => [(1, .box 26 [.v (.int .i64 f.Kind), .v (.int .i64 f.Number), .v (.int .i64 f.Offset), .v (.int .i64 f.Seq), .fl .shr 1 (List.map (Value.int .u8) f.Data)]), (8, .v (.bool s116))]) ?_ ?_
          ·rintro s116 h
           refine pt_inb ?_
           exact hl97 _ (Option.some.inj h).symm
          ·intro u117 h hl118 hr119
           refine cond_some h (fun hg12_1 h => ?_) (fun hg12_1 h => ?_)
           ·refine cond_some h (fun hg12_4 h => ?_) (fun hg12_4 h => ?_)
            ·refine yx hn 2 ?_
             refine yd hg12_1 3 ?_
             refine yd hg12_4 2 ?_
             refine yw [8] 1 ?_
             refine ye [1,8] ?_
             exact hl118 _ (Option.some.inj h).symm
            ·refine yx hn 2 ?_
             refine yd hg12_1 3 ?_
             refine yd hg12_4 2 ?_
             refine yw [8] 1 ?_
             refine ye [1,8] ?_
             exact hl118 _ (Option.some.inj h).symm
           ·refine yx hn 2 ?_
            refine yd hg12_1 5 ?_
            refine yw [8] 1 ?_
            refine ye [1,8] ?_
            exact hl118 _ (Option.some.inj h).symm
         ·have h := cond_f hb115 h
          refine yyy hn 2 [1,3,4,5,8,72] ?_
          refine ht_cond _ rfl (fun hb120 => ?_) (fun hb120 => ?_)
          ·have h := cond_t hb120 h
           refine ht_joinS h (fun (s121 : Bool) => [(1, .box 26 [.v (.int .i64 f.Kind), .v (.int .i64 f.Number), .v (.int .i64 f.Offset), .v (.int .i64 f.Seq), .fl .shr 1 (List.map (Value.int .u8) f.Data)]), (8, .v (.bool s121))]) ?_ ?_
           ·rintro s121 h
            refine pt_inb ?_
            exact hl97 _ (Option.some.inj h).symm
           ·intro u122 h hl123 hr124
            refine cond_some h (fun hg14_1 h => ?_) (fun hg14_1 h => ?_)
            ·refine cond_some h (fun hg14_4 h => ?_) (fun hg14_4 h => ?_)
             ·refine yx hn 2 ?_
              refine yd hg14_1 3 ?_
              refine yd hg14_4 2 ?_
              refine yw [8] 1 ?_
              refine ye [1,8] ?_
              exact hl123 _ (Option.some.inj h).symm
             ·refine yx hn 2 ?_
              refine yd hg14_1 3 ?_
              refine yd hg14_4 2 ?_
              refine yw [8] 1 ?_
              refine ye [1,8] ?_
              exact hl123 _ (Option.some.inj h).symm
            ·refine yx hn 2 ?_
             refine yd hg14_1 5 ?_
             refine yw [8] 1 ?_
             refine ye [1,8] ?_
             exact hl123 _ (Option.some.inj h).symm
          ·have h := cond_f hb120 h
           refine ht_skip ?_
           refine pt_inb ?_
           refine pt_pick [0, 4] (by kernel_rfl) (es' := [(_,_),(_,_)]) rfl ?_
           exact hl97 _ (Option.some.inj h).symm
      ·intro u101 h hl102 hr103
       refine yyy hn 2 [1,3,4,5,6,7,8,36,37] ?_
       refine ht_cond _ rfl (fun hb104 => ?_) (fun hb104 => ?_)
       ·have h := cond_t hb104 h
        refine ht_skip ?_
        exact hl102 _ (Option.some.inj h).symm
       ·have h := cond_f hb104 h
        refine yx hn 1 ?_
        refine yw [37] 1 ?_
        refine ye [1,3,4,5,6,7,8,36,37] ?_
        exact hl102 _ (Option.some.inj h).symm
   ·intro u6 h hl7 hr8
    refine cond_some h (fun hg3_3 h => ?_) (fun hg3_3 h => ?_)
    ·refine yx hn 4 ?_
     refine yd hg3_3 5 ?_
     refine ye [1,3,4,5,6,7] ?_
     exact hl7 _ (Option.some.inj h).symm
    ·refine yx hn 4 ?_
     refine yd hg3_3 5 ?_
     refine ye [1,3,4,5,6,7] ?_
     exact hl7 _ (Option.some.inj h).symm
  ·intro u2 h hl3 hr4
   refine cond_some h (fun hg2_3 h => ?_) (fun hg2_3 h => ?_)
   ·refine yx hn 4 ?_
    refine yd hg2_3 5 ?_
    refine ye [1,3,4,5,6] ?_
    exact hl3 _ (Option.some.inj h).symm
   ·refine yx hn 4 ?_
    refine yd hg2_3 5 ?_
    refine ye [1,3,4,5,6] ?_
    exact hl3 _ (Option.some.inj h).symm
end Go.Proofs.Ytdligpdfcfbgpaa
