/-
  The model's runs are what is told in Lean.
-/
import Derived.Test.YthhebpiaknfnhaaGreatDoorProg
import Derived.KernelRfl
import Derived.Test.YthhebpiaknfnhaaGreatDoorShelf
import Derived.Test.YthhebpiaknfnhaaGreatDoorIdx
import Derived.Test.YthhebpiaknfnhaaGreatDoorIns
import Derived.Test.YthhebpiaknfnhaaGreatDoorB1
import Derived.Test.YthhebpiaknfnhaaGreatDoorC1
import Derived.Test.YthhebpiaknfnhaaGreatDoorOkc1
set_option linter.unusedVariables false
set_option linter.unusedSimpArgs false
set_option maxHeartbeats 1000000
namespace Go.Proofs.YthhebpiaknfnhaaGreatDoor
open Go.Abs Go.Abs.Sh Tryz
open List (map flatten)
open Value (int)
theorem ok_taker_chunk_sh (off:Int) (t:T_Take) (f:T_Frame) (r:(T_taker_result×Int)) (h:Sh.taker_chunk_sh off t f=some r):FnOK Tryz.prog 31 [.v (.int .i64 off), .agg [.v (.bool t.Open), .v (.int .i64 t.Number), .v (.int .i64 t.Total)], .agg [.v (.int .i64 f.Kind), .v (.int .i64 f.Number), .v (.int .i64 f.Offset), .v (.int .i64 f.Seq), .fl .shr 1 (map (int .u8) f.Data)]] (.tup [.agg [.v (.bool r.1.take.Open), .v (.int .i64 r.1.take.Number), .v (.int .i64 r.1.take.Total), .fr .shr true 15 (flatten (map T_Rec.ienc r.1.recs)), .fr .shr true 5 (flatten (map T_Frame.ienc r.1.out))], .v (.int .i64 r.2)]):=by
  unfold Sh.taker_chunk_sh at h
  refine yO 82 func31 fun g0 hn hio => ?_
  refine yxx hn 2 ?_
  refine yS (.box 67 [vb false,vi 0,vi 0,vz,vz]) 1 ⟨oA (op_alloc _ _ zr67)⟩ ?_
  refine yee [0,4,5,6] ?_
  refine ht_seq ?_
  refine ht_seq ?_
  refine ht_joinS h (fun (s74:Bool)=>[(0,vi off),(4,.box 36 [vb t.Open,vi t.Number,vi t.Total]),(5,.box 44 [vi f.Kind,vi f.Number,vi f.Offset,vi f.Seq,fb f.Data]),(6,.box 67 [vb false,vi 0,vi 0,vz,vz]),(20,vb s74)]) ?_ ?_
  ·rintro s74 h
   refine pt_then ?_
   refine ht_cond _ rfl (fun hb78 => ?_) (fun hb78 => ?_)
   ·have h:=cond_t hb78 h
    refine yxx hn 0 ?_
    refine yS (.agg [vb false,vi 0,vi 0,vz,vz]) 0 ⟨op_build _ _ _ _ [3,1,1] _ _ underlying67 zr67 (fs67 _ underlying67) Src.nil rfl rfl rfl⟩ ?_
    refine yk [21,6] [] ?_
    refine yt (6,.box 67 [vb false,vi 0,vi 0,vz,vz]) 1 ⟨op_store_self _ _ _ 21 6 5 sz67 rfl rfl rfl rfl rfl (.eq _ (.eq _ (.eq _ (.eq _ (.eq _ (.nil _)))))) rfl⟩ ?_
    refine yee [6,7] ?_
    refine ht_ret ?_
    refine pt_sub (fs:=[(6,.box 67 [vb false,vi 0,vi 0,.fr .shr true 15 (flatten (map T_Rec.ienc [])),.fr .shr true 5 (flatten (map T_Frame.ienc []))]),(7,vi 11)]) (.box _ _ (subs_cons (sub_refl _) (subs_cons (sub_refl _) (subs_cons (sub_refl _) (subs_cons (sub_nil_frs true 15) (subs_cons (sub_nil_frs true 5) (subs_nil)))))) rfl (.same _ .nil)) ?_
    refine pt_r_then ?_
    obtain rfl:=zi h
    exact pt_ret hio rfl (.cellA _ _ _ _ underlying67 rfl sz67 (.tmp _ _ .nil)) rfl rfl
   ·have h:=cond_f hb78 h
    refine ht_skip ?_
    refine pt_then (ht_seq ?_)
    refine yyy hn 4 [0,4,5,6,25] ?_
    refine ht_cond _ rfl (fun hb79 => ?_) (fun hb79 => ?_)
    ·have h:=cond_t hb79 h
     refine yxx hn 1 ?_
     refine yS (.agg [vb t.Open,vi t.Number,vi t.Total,vz,vz]) 2 ⟨op_build _ _ _ _ [3,1,1] _ _ underlying67 zr67 (fs67 _ underlying67) (.copy _ Src.nil) rfl rfl rfl⟩ ?_
     refine yee [6,7] ?_
     refine ht_ret ?_
     refine pt_sub (fs:=[(6,.box 67 [vb t.Open,vi t.Number,vi t.Total,.fr .shr true 15 (flatten (map T_Rec.ienc [])),.fr .shr true 5 (flatten (map T_Frame.ienc []))]),(7,vi 0)]) (.box _ _ (subs_cons (sub_refl _) (subs_cons (sub_refl _) (subs_cons (sub_refl _) (subs_cons (sub_nil_frs true 15) (subs_cons (sub_nil_frs true 5) (subs_nil)))))) rfl (.same _ .nil)) ?_
     refine pt_r_then ?_
     obtain rfl:=zi h
     exact pt_ret hio rfl (.cellA _ _ _ _ underlying67 rfl sz67 (.tmp _ _ .nil)) rfl rfl
    ·have h:=cond_f hb79 h
     refine ht_skip ?_
     refine pt_then (ht_seq ?_)
     obtain ⟨v7, hv7, h⟩:=zn h
     refine yx hn 1 ?_
     refine ys 1 ⟨lB (quo_ok hv7)⟩ ?_
     refine yee [0,4,5,6,8] ?_
     refine ht_seq ?_
     refine yyy hn 4 [0,4,5,6,8,33] ?_
     refine ht_cond _ rfl (fun hb80 => ?_) (fun hb80 => ?_)
     ·have h:=cond_t hb80 h
      refine ht_seq ?_
      refine ht_joinS h (fun (s82:Int)=>[(4,.box 36 [vb t.Open,vi t.Number,vi t.Total]),(5,.box 44 [vi f.Kind,vi f.Number,vi f.Offset,vi f.Seq,fb f.Data]),(6,.box 67 [vb false,vi 0,vi 0,vz,vz]),(8,vi s82)]) ?_ ?_
      ·rintro s82 h
       refine pt_then (ht_seq ?_)
       obtain ⟨v17, hv17, h⟩:=zn h
       obtain ⟨v44, hv44, h⟩:=zn h
       refine wb [[4],[5],[40,5],[8]] ?_
       refine wN [41,42] ?_
       refine wS (.agg [vi v17.Kind,vi v17.Number,vi v17.Offset,vi v17.Seq,.fl .ro 1 (map (int .u8) v17.Data)]) [] ⟨LOp.frzG 0 (op_call _ _ 47 _ _ rfl call47 rfl (ok_taker_ack f.Number s82 _ hv17) rfl rfl) (zl rfl) rfl⟩ ?_
       refine wN [39,43] ?_
       refine wS (.agg (T_taker_result.c v44 [])) [] ⟨op_callS _ _ 29 _ _ rfl call29 rfl rfl (ok_taker_answer_sh t v17 _ hv44) rfl⟩ ?_
       refine wK [6] [44] ?_
       refine wt [(6,.box 67 (T_taker_result.c v44 []))] [[]] ⟨op_store _ _ _ _ _ _ _ _ sz67 rfl rfl rfl rfl (zl rfl) rfl rfl⟩ ?_
       refine wee hn [6,7] ?_
       refine ht_ret ?_
       refine pt_r_then ?_
       obtain rfl:=zi h
       exact pt_ret hio rfl (.cellA _ _ _ _ underlying67 rfl sz67 (.tmp _ _ .nil)) rfl rfl
      ·intro u83 h hl84 hr85
       refine ht_seq ?_
       obtain ⟨v9, hv9, h⟩:=zn h
       refine yx hn 1 ?_
       refine ys 1 ⟨lB (rem_ok hv9)⟩ ?_
       refine yee [4,5,6,8,36] ?_
       refine ht_cond _ rfl (fun hb86 => ?_) (fun hb86 => ?_)
       ·have h:=cond_t hb86 h
        obtain ⟨v11, hv11, h⟩:=zn h
        refine yx hn 1 ?_
        refine ys 0 ⟨lb hv11⟩ ?_
        refine yw [8] 1 ?_
        refine ye [4,5,6,8] ?_
        exact hl84 _ (zi h).symm
       ·have h:=cond_f hb86 h
        refine ht_skip ?_
        refine pt_pick [0,1,2,3] (by kernel_rfl) (es':=[(_,_),(_,_),(_,_),(_,_)]) rfl ?_
        exact hl84 _ (zi h).symm
     ·have h:=cond_f hb80 h
      refine ht_skip ?_
      refine pt_then (ht_seq ?_)
      obtain ⟨v45, hv45, h⟩:=zn h
      obtain ⟨v46, hv46, h⟩:=zn h
      refine yx hn 3 ?_
      refine yS (vi v45) 1 ⟨(Option.some.inj hv45) ▸ op_max _ _ _ _ rfl rfl⟩ ?_
      refine ys 1 ⟨lb hv46⟩ ?_
      refine yee [0,4,5,6,8,9] ?_
      refine ht_seq ?_
      refine ht_seq ?_
      refine ht_joinS h (fun (s87:Bool)=>[(0,vi off),(4,.box 36 [vb t.Open,vi t.Number,vi t.Total]),(5,.box 44 [vi f.Kind,vi f.Number,vi f.Offset,vi f.Seq,fb f.Data]),(6,.box 67 [vb false,vi 0,vi 0,vz,vz]),(8,vi v7),(63,vb s87)]) ?_ ?_
      ·rintro s87 h
       refine pt_then ?_
       refine ht_cond _ rfl (fun hb91 => ?_) (fun hb91 => ?_)
       ·have h:=cond_t hb91 h
        refine yxx hn 0 ?_
        refine yS (.agg [vb false,vi 0,vi 0,vz,vz]) 0 ⟨op_build _ _ _ _ [3,1,1] _ _ underlying67 zr67 (fs67 _ underlying67) Src.nil rfl rfl rfl⟩ ?_
        refine yk [64,6] [] ?_
        refine yt (6,.box 67 [vb false,vi 0,vi 0,vz,vz]) 1 ⟨op_store_self _ _ _ 64 6 5 sz67 rfl rfl rfl rfl rfl (.eq _ (.eq _ (.eq _ (.eq _ (.eq _ (.nil _)))))) rfl⟩ ?_
        refine yee [6,7] ?_
        refine ht_ret ?_
        refine pt_sub (fs:=[(6,.box 67 [vb false,vi 0,vi 0,.fr .shr true 15 (flatten (map T_Rec.ienc [])),.fr .shr true 5 (flatten (map T_Frame.ienc []))]),(7,vi 11)]) (.box _ _ (subs_cons (sub_refl _) (subs_cons (sub_refl _) (subs_cons (sub_refl _) (subs_cons (sub_nil_frs true 15) (subs_cons (sub_nil_frs true 5) (subs_nil)))))) rfl (.same _ .nil)) ?_
        refine pt_r_then ?_
        obtain rfl:=zi h
        exact pt_ret hio rfl (.cellA _ _ _ _ underlying67 rfl sz67 (.tmp _ _ .nil)) rfl rfl
       ·have h:=cond_f hb91 h
        refine ht_skip ?_
        refine pt_then (ht_seq ?_)
        obtain ⟨v54, hv54, h⟩:=zn h
        obtain ⟨v55, hv55, h⟩:=zn h
        obtain ⟨v92, hv92, h⟩:=zn h
        refine wb [[4],[5],[66,5],[8]] ?_
        refine wN [68] ?_
        refine wo [] ⟨lb hv54⟩ ?_
        refine wN [67,69] ?_
        refine wS (.agg [vi v55.Kind,vi v55.Number,vi v55.Offset,vi v55.Seq,.fl .ro 1 (map (int .u8) v55.Data)]) [] ⟨LOp.frzG 0 (op_call _ _ 47 _ _ rfl call47 rfl (ok_taker_ack f.Number v54 _ hv55) rfl rfl) (zl rfl) rfl⟩ ?_
        refine wN [65,70] ?_
        refine wS (.agg (T_taker_result.c v92 [])) [] ⟨op_callS _ _ 29 _ _ rfl call29 rfl rfl (ok_taker_answer_sh t v55 _ hv92) rfl⟩ ?_
        refine wN [] ?_
        refine wS (.box 67 [vb false,vi 0,vi 0,vz,vz]) [] ⟨oA (op_alloc _ _ zr67)⟩ ?_
        refine wK [10] [71] ?_
        refine wt [(10,.box 67 (T_taker_result.c v92 []))] [] ⟨op_store _ _ _ _ _ _ _ _ sz67 rfl rfl rfl rfl (zl rfl) rfl rfl⟩ ?_
        refine wee hn [0,5,6,10] ?_
        refine ht_seq ?_
        obtain ⟨v93, hv93, h⟩:=zn h
        refine wb [[5],[72,5],[0],[5],[75,5]] ?_
        refine wN [76] ?_
        refine wo [] ⟨lk call13 (ok_clone_List_byte _ _ hv93)⟩ ?_
        refine wK [77] [73,74] ?_
        refine wt [(78,.agg [vi 5,vb false,vs z0,vs z0,vz,vz,vb false,vs z0,vi 0,vi 0,vz,vi 0,vi f.Number,vi off,.fl (.own 5) 1 (map (int .u8) v93)])] [] ⟨op_build _ _ _ _ [1,8,1,1,1,1,1,1] _ _ underlying53 zr53 (fs53 _ underlying53) (.copy _ (.copy _ (.copy _ (.take _ _ Src.nil)))) rfl rfl rfl⟩ ?_
        refine wK [78] [] ?_
        refine wt [(79,.fr (.own 53) false 15 (flatten (map T_Rec.ienc ([(T_Rec.mk 5 ((T_Mail.mk ((T_Path.mk false z0 z0)) [] [] false z0 0)) 0 [] 0 f.Number off v93)]))))] [[10]] ⟨op_build1_fr_take _ _ _ 15 (.agg #[.int .i64 0,.bool false,.string ByteArray.empty,.string ByteArray.empty,.slice none 0 0,.slice none 0 0,.bool false,.string ByteArray.empty,.int .i64 0,.int .i64 0,.slice none 0 0,.int .i64 0,.int .i64 0,.int .i64 0,.slice none 0 0]) false _ _ underlying40 sz53 zr53 rfl (.cons (.v _) (.cons (.v _) (.cons (.v _) (.cons (.v _) (.cons (.nil 3) (.cons (.nil 1) (.cons (.v _) (.cons (.v _) (.cons (.v _) (.cons (.v _) (.cons (.nil 1) (.cons (.v _) (.cons (.v _) (.cons (.v _) (.cons (.ro _ _ rfl) (.nil)))))))))))))))) rfl (by decide) (by decide)⟩ ?_
        refine wK [79,10] [80] ?_
        refine wt [(10,.box 67 [vb v92.take.Open,vi v92.take.Number,vi v92.take.Total,.fr (.own 53) false 15 (flatten (map T_Rec.ienc ([(T_Rec.mk 5 ((T_Mail.mk ((T_Path.mk false z0 z0)) [] [] false z0 0)) 0 [] 0 f.Number off v93)]))),.fr .shr true 5 (flatten (map T_Frame.ienc v92.out))])] [] ⟨op_store_take _ _ _ _ _ _ _ _ sz40 rfl rfl rfl (zl rfl) rfl rfl⟩ ?_
        refine wee hn [6,10] ?_
        refine yxx hn 0 ?_
        refine yk [10] [] ?_
        refine yt (81,.agg [vb v92.take.Open,vi v92.take.Number,vi v92.take.Total,.fr (.own 53) false 15 (flatten (map T_Rec.ienc ([(T_Rec.mk 5 ((T_Mail.mk ((T_Path.mk false z0 z0)) [] [] false z0 0)) 0 [] 0 f.Number off v93)]))),.fr .shr true 5 (flatten (map T_Frame.ienc v92.out))]) 0 ⟨op_loadA_take _ _ _ _ underlying67 rfl sz67 rfl rfl⟩ ?_
        refine yk [81,6] [] ?_
        refine yt (6,.box 67 [vb v92.take.Open,vi v92.take.Number,vi v92.take.Total,.fr (.own 53) false 15 (flatten (map T_Rec.ienc ([(T_Rec.mk 5 ((T_Mail.mk ((T_Path.mk false z0 z0)) [] [] false z0 0)) 0 [] 0 f.Number off v93)]))),.fr .shr true 5 (flatten (map T_Frame.ienc v92.out))]) 1 ⟨op_store_take _ _ _ _ _ _ _ _ sz67 rfl rfl rfl (zl rfl) rfl rfl⟩ ?_
        refine yee [6,7] ?_
        refine ht_ret ?_
        refine pt_frz 0 hio (es':=[(6, .box 67 [.v (.bool v92.take.Open),.v (.int .i64 v92.take.Number),.v (.int .i64 v92.take.Total),.fr .ro false 15 (flatten (map T_Rec.ienc ([(T_Rec.mk 5 ((T_Mail.mk ((T_Path.mk false (⟨#[]⟩:ByteArray) (⟨#[]⟩:ByteArray))) [] [] false (⟨#[]⟩:ByteArray) 0)) 0 [] 0 f.Number off v93)]))),.fr .shr true 5 (flatten (map T_Frame.ienc v92.out))]), (7, .v (.int .i64 0))]) rfl ?_
        refine pt_sub (fs:=[(6,.box 67 [vb v92.take.Open,vi v92.take.Number,vi v92.take.Total,.fr .shr true 15 (flatten (map T_Rec.ienc ([(T_Rec.mk 5 ((T_Mail.mk ((T_Path.mk false z0 z0)) [] [] false z0 0)) 0 [] 0 f.Number off v93)]))),.fr .shr true 5 (flatten (map T_Frame.ienc v92.out))]),(7,vi 0)]) (.box _ _ (subs_cons (sub_refl _) (subs_cons (sub_refl _) (subs_cons (sub_refl _) (subs_cons (sub_fr_shr _ _ _) (subs_cons (sub_refl _) (subs_nil)))))) rfl (.same _ .nil)) ?_
        obtain rfl:=zi h
        exact pt_ret hio rfl (.cellA _ _ _ _ underlying67 rfl sz67 (.tmp _ _ .nil)) rfl rfl
      ·intro u88 h hl89 hr90
       obtain ⟨v47, hv47, h⟩:=zn h
       refine cond_some h (fun hg11_5 h => ?_) (fun hg11_5 h => ?_)
       ·refine yx hn 3 ?_
        refine ys 2 ⟨lB (rem_ok hv47)⟩ ?_
        refine yd hg11_5 7 ?_
        refine ye [0,4,5,6,8,63] ?_
        exact hl89 _ (zi h).symm
       ·obtain ⟨v48, hv48, h⟩:=zn h
        refine yx hn 3 ?_
        refine ys 2 ⟨lB (rem_ok hv47)⟩ ?_
        refine yd hg11_5 4 ?_
        refine yS (vi v48) 2 ⟨(Option.some.inj hv48) ▸ op_min _ _ _ _ rfl rfl⟩ ?_
        refine ye [0,4,5,6,8,63] ?_
        exact hl89 _ (zi h).symm
  ·intro u75 h hl76 hr77
   refine cond_some h (fun hg1_3 h => ?_) (fun hg1_3 h => ?_)
   ·refine yx hn 4 ?_
    refine yd hg1_3 6 ?_
    refine ye [0,4,5,6,20] ?_
    exact hl76 _ (zi h).symm
   ·refine yx hn 4 ?_
    refine yd hg1_3 6 ?_
    refine ye [0,4,5,6,20] ?_
    exact hl76 _ (zi h).symm
theorem ok_taker_hear_sh (s:T_Spool) (t:T_Take) (f:T_Frame) (r:(T_taker_result×Int)) (h:Sh.taker_hear_sh s t f=some r):FnOK Tryz.prog 21 [.agg [.fr .shr true 11 (flatten (map T_Item.ienc s.Items)), .v (.int .i64 s.Packs), .fl .shr 1 (map (int .i64) s.Sent), .fl .shr 1 (map (int .u8) s.Part), .v (.int .i64 s.Of), .fl .shr 1 (map (int .i64) s.Done)], .agg [.v (.bool t.Open), .v (.int .i64 t.Number), .v (.int .i64 t.Total)], .agg [.v (.int .i64 f.Kind), .v (.int .i64 f.Number), .v (.int .i64 f.Offset), .v (.int .i64 f.Seq), .fl .shr 1 (map (int .u8) f.Data)]] (.tup [.agg [.v (.bool r.1.take.Open), .v (.int .i64 r.1.take.Number), .v (.int .i64 r.1.take.Total), .fr .shr true 15 (flatten (map T_Rec.ienc r.1.recs)), .fr .shr true 5 (flatten (map T_Frame.ienc r.1.out))], .v (.int .i64 r.2)]):=by
  unfold Sh.taker_hear_sh at h
  refine yO 47 func21 fun g0 hn hio => ?_
  refine yxx hn 3 ?_
  refine yS (.box 67 [vb false,vi 0,vi 0,vz,vz]) 1 ⟨oA (op_alloc _ _ zr67)⟩ ?_
  refine yee [3,4,5,6] ?_
  refine ht_seq ?_
  refine ht_seq ?_
  refine ht_joinS h (fun (s1:Bool)=>[(3,.box 33 (T_Spool.c s [])),(4,.box 36 [vb t.Open,vi t.Number,vi t.Total]),(5,.box 44 [vi f.Kind,vi f.Number,vi f.Offset,vi f.Seq,fb f.Data]),(6,.box 67 [vb false,vi 0,vi 0,vz,vz]),(15,vb s1)]) ?_ ?_
  ·rintro s1 h
   refine pt_then ?_
   refine ht_cond _ rfl (fun hb5 => ?_) (fun hb5 => ?_)
   ·have h:=cond_t hb5 h
    refine yxx hn 0 ?_
    refine yS (.agg [vb false,vi 0,vi 0,vz,vz]) 0 ⟨op_build _ _ _ _ [3,1,1] _ _ underlying67 zr67 (fs67 _ underlying67) Src.nil rfl rfl rfl⟩ ?_
    refine yk [16,6] [] ?_
    refine yt (6,.box 67 [vb false,vi 0,vi 0,vz,vz]) 1 ⟨op_store_self _ _ _ 16 6 5 sz67 rfl rfl rfl rfl rfl (.eq _ (.eq _ (.eq _ (.eq _ (.eq _ (.nil _)))))) rfl⟩ ?_
    refine yee [6,7] ?_
    refine ht_ret ?_
    refine pt_sub (fs:=[(6,.box 67 [vb false,vi 0,vi 0,.fr .shr true 15 (flatten (map T_Rec.ienc [])),.fr .shr true 5 (flatten (map T_Frame.ienc []))]),(7,vi 11)]) (.box _ _ (subs_cons (sub_refl _) (subs_cons (sub_refl _) (subs_cons (sub_refl _) (subs_cons (sub_nil_frs true 15) (subs_cons (sub_nil_frs true 5) (subs_nil)))))) rfl (.same _ .nil)) ?_
    refine pt_r_then ?_
    obtain rfl:=zi h
    exact pt_ret hio rfl (.cellA _ _ _ _ underlying67 rfl sz67 (.tmp _ _ .nil)) rfl rfl
   ·have h:=cond_f hb5 h
    refine ht_skip ?_
    refine pt_then (ht_seq ?_)
    refine ht_seq ?_
    obtain ⟨v6, hv6, h⟩:=zn h
    refine yx hn 4 ?_
    refine ys 0 ⟨lk call28 (ok_slices_Contains_int_int _ _ _ hv6)⟩ ?_
    refine yee [3,4,5,6,21] ?_
    refine ht_cond _ rfl (fun hb7 => ?_) (fun hb7 => ?_)
    ·have h:=cond_t hb7 h
     refine ht_seq ?_
     obtain ⟨v8, hv8, h⟩:=zn h
     refine yx hn 3 ?_
     refine yS (.agg [vi 5,vi f.Number,vi 0,vi 0,vz]) 0 ⟨op_build _ _ _ _ [1,1,1,1,1] _ _ underlying44 zr44 (fs44 _ underlying44) (.copy _ (.copy _ Src.nil)) rfl rfl rfl⟩ ?_
     refine yk [] [22,25] ?_
     refine yt (26,.agg (T_taker_result.c v8 [])) 2 ⟨op_callS _ _ 29 _ _ rfl call29 rfl rfl ((ok_taker_answer_sh t (T_Frame.mk 5 f.Number 0 0 []) _ hv8).args (subs_cons (sub_refl _) (subs_cons (sub_agg (subs_cons (sub_refl _) (subs_cons (sub_refl _) (subs_cons (sub_refl _) (subs_cons (sub_refl _) (subs_cons (sub_nil_shr 1) (subs_nil))))))) (subs_nil)))) rfl⟩ ?_
     refine yee [6,7] ?_
     refine ht_ret ?_
     refine pt_r_then ?_
     obtain rfl:=zi h
     exact pt_ret hio rfl (.cellA _ _ _ _ underlying67 rfl sz67 (.tmp _ _ .nil)) rfl rfl
    ·have h:=cond_f hb7 h
     refine ht_skip ?_
     refine pt_then (ht_seq ?_)
     refine yyy hn 3 [3,4,5,6,29] ?_
     refine ht_cond _ rfl (fun hb9 => ?_) (fun hb9 => ?_)
     ·have h:=cond_t hb9 h
      refine ht_seq ?_
      obtain ⟨v10, hv10, h⟩:=zn h
      obtain ⟨v11, hv11, h⟩:=zn h
      refine wb [[3],[5],[31,5]] ?_
      refine wN [30,32] ?_
      refine wo [[5]] ⟨lk call25 (ok_taker_Far _ _ _ hv10)⟩ ?_
      refine wN [33,34] ?_
      refine wS (.tup [.agg (T_taker_result.c v11.1 []),vi v11.2]) [] ⟨op_callS _ _ 30 _ _ rfl call30 rfl rfl (ok_taker_hello_sh v10 f _ hv11) rfl⟩ ?_
      refine wN [35] ?_
      refine wS (.agg (T_taker_result.c v11.1 [])) [[35]] ⟨op_extract_no _ _ _ _ _ _ rfl rfl (zl rfl) rfl rfl⟩ ?_
      refine wK [6] [36] ?_
      refine wt [(6,.box 67 (T_taker_result.c v11.1 []))] [[37]] ⟨op_store _ _ _ _ _ _ _ _ sz67 rfl rfl rfl rfl (zl rfl) rfl rfl⟩ ?_
      refine wee hn [6,7] ?_
      refine ht_ret ?_
      refine pt_r_then ?_
      obtain rfl:=zi h
      exact pt_ret hio rfl (.cellA _ _ _ _ underlying67 rfl sz67 (.tmp _ _ .nil)) rfl rfl
     ·have h:=cond_f hb9 h
      refine ht_skip ?_
      refine pt_then (ht_seq ?_)
      obtain ⟨v12, hv12, h⟩:=zn h
      obtain ⟨v13, hv13, h⟩:=zn h
      refine wb [[3],[5],[39,5]] ?_
      refine wN [38,40] ?_
      refine wo [[4],[5]] ⟨lk call25 (ok_taker_Far _ _ _ hv12)⟩ ?_
      refine wN [41,42,43] ?_
      refine wS (.tup [.agg (T_taker_result.c v13.1 []),vi v13.2]) [] ⟨op_callS _ _ 31 _ _ rfl call31 rfl rfl (ok_taker_chunk_sh v12 t f _ hv13) rfl⟩ ?_
      refine wN [44] ?_
      refine wS (.agg (T_taker_result.c v13.1 [])) [[44]] ⟨op_extract_no _ _ _ _ _ _ rfl rfl (zl rfl) rfl rfl⟩ ?_
      refine wK [6] [45] ?_
      refine wt [(6,.box 67 (T_taker_result.c v13.1 []))] [[46]] ⟨op_store _ _ _ _ _ _ _ _ sz67 rfl rfl rfl rfl (zl rfl) rfl rfl⟩ ?_
      refine wee hn [6,7] ?_
      refine ht_ret ?_
      obtain rfl:=zi h
      exact pt_ret hio rfl (.cellA _ _ _ _ underlying67 rfl sz67 (.tmp _ _ .nil)) rfl rfl
  ·intro u2 h hl3 hr4
   refine cond_some h (fun hg1_3 h => ?_) (fun hg1_3 h => ?_)
   ·refine yx hn 4 ?_
    refine yd hg1_3 4 ?_
    refine ye [3,4,5,6,15] ?_
    exact hl3 _ (zi h).symm
   ·refine yx hn 4 ?_
    refine yd hg1_3 4 ?_
    refine ye [3,4,5,6,15] ?_
    exact hl3 _ (zi h).symm
theorem ok_taker_Hear_sh (s:T_Spool) (t:T_Take) (f:T_Frame) (r:(T_Take×(List T_Rec)×(List T_Frame)×Int)) (h:Sh.taker_Hear_sh s t f=some r):FnOK Tryz.prog 7 [.agg [.fr .shr true 11 (flatten (map T_Item.ienc s.Items)), .v (.int .i64 s.Packs), .fl .shr 1 (map (int .i64) s.Sent), .fl .shr 1 (map (int .u8) s.Part), .v (.int .i64 s.Of), .fl .shr 1 (map (int .i64) s.Done)], .agg [.v (.bool t.Open), .v (.int .i64 t.Number), .v (.int .i64 t.Total)], .agg [.v (.int .i64 f.Kind), .v (.int .i64 f.Number), .v (.int .i64 f.Offset), .v (.int .i64 f.Seq), .fl .shr 1 (map (int .u8) f.Data)]] (.tup [.agg [.v (.bool r.1.Open), .v (.int .i64 r.1.Number), .v (.int .i64 r.1.Total)], .fr .shr true 15 (flatten (map T_Rec.ienc r.2.1)), .fr .shr true 5 (flatten (map T_Frame.ienc r.2.2.1)), .v (.int .i64 r.2.2.2)]):=by
  unfold Sh.taker_Hear_sh at h
  refine yO 35 func7 fun g0 hn hio => ?_
  refine yxx hn 3 ?_
  refine yS (.box 36 [vb false,vi 0,vi 0]) 3 ⟨oA (op_alloc _ _ zr36)⟩ ?_
  refine yee [3,4,5,6] ?_
  refine ht_seq ?_
  refine ht_seq ?_
  obtain ⟨v1, hv1, h⟩:=zn h
  refine yx hn 1 ?_
  refine ys 1 ⟨lk call20 (ok_frame_Check _ _ hv1)⟩ ?_
  refine yee [3,4,5,6,10] ?_
  refine yyy hn 2 [3,4,5,6,10,15] ?_
  refine ht_cond _ rfl (fun hb2 => ?_) (fun hb2 => ?_)
  ·have h:=cond_t hb2 h
   refine yxx hn 0 ?_
   refine yS (.agg [vb false,vi 0,vi 0]) 1 ⟨op_build _ _ _ _ [1,1,1] _ _ underlying36 zr36 (fs36 _ underlying36) Src.nil rfl rfl rfl⟩ ?_
   refine yk [16,6] [] ?_
   refine yt (6,.box 36 [vb false,vi 0,vi 0]) 3 ⟨op_store_self _ _ _ 16 6 3 sz36 rfl rfl rfl rfl rfl (.eq _ (.eq _ (.eq _ (.nil _)))) rfl⟩ ?_
   refine yee [6,7,8,9] ?_
   refine ht_ret ?_
   refine pt_sub (fs:=[(6,.box 36 [vb false,vi 0,vi 0]),(7,.fr .shr true 15 (flatten (map T_Rec.ienc []))),(8,.fr .shr true 5 (flatten (map T_Frame.ienc []))),(9,vi v1)]) (.same _ (.sub _ (sub_nil_frs true 15) rfl (.sub _ (sub_nil_frs true 5) rfl (.same _ .nil)))) ?_
   refine pt_r_then ?_
   obtain rfl:=zi h
   exact pt_ret hio rfl (.cellA _ _ _ _ underlying36 rfl sz36 (.tmp _ _ (.tmp _ _ (.tmp _ _ .nil)))) rfl rfl
  ·have h:=cond_f hb2 h
   refine ht_skip ?_
   refine pt_then (ht_seq ?_)
   obtain ⟨v3, hv3, h⟩:=zn h
   refine yx hn 3 ?_
   refine yk [] [19,20,21] ?_
   refine yt (22,.tup [.agg (T_taker_result.c v3.1 []),vi v3.2]) 0 ⟨op_callS _ _ 21 _ _ rfl call21 rfl rfl (ok_taker_hear_sh s t f _ hv3) rfl⟩ ?_
   refine ym 0 ?_
   refine yS (.agg (T_taker_result.c v3.1 [])) 1 ⟨op_extract_no _ _ _ _ _ _ rfl rfl (zl rfl) rfl rfl⟩ ?_
   refine yS (.box 67 [vb false,vi 0,vi 0,vz,vz]) 2 ⟨oA (op_alloc _ _ zr67)⟩ ?_
   refine yee [6,11,9] ?_
   refine ht_seq ?_
   refine yyy hn 2 [6,11,9,26] ?_
   refine ht_cond _ rfl (fun hb4 => ?_) (fun hb4 => ?_)
   ·have h:=cond_t hb4 h
    refine yxx hn 0 ?_
    refine yS (.agg [vb false,vi 0,vi 0]) 1 ⟨op_build _ _ _ _ [1,1,1] _ _ underlying36 zr36 (fs36 _ underlying36) Src.nil rfl rfl rfl⟩ ?_
    refine yk [27,6] [] ?_
    refine yt (6,.box 36 [vb false,vi 0,vi 0]) 2 ⟨op_store_self _ _ _ 27 6 3 sz36 rfl rfl rfl rfl rfl (.eq _ (.eq _ (.eq _ (.nil _)))) rfl⟩ ?_
    refine yw [9] 1 ?_
    refine yee [6,7,8,9] ?_
    refine ht_ret ?_
    refine pt_sub (fs:=[(6,.box 36 [vb false,vi 0,vi 0]),(7,.fr .shr true 15 (flatten (map T_Rec.ienc []))),(8,.fr .shr true 5 (flatten (map T_Frame.ienc []))),(9,vi v3.2)]) (.same _ (.sub _ (sub_nil_frs true 15) rfl (.sub _ (sub_nil_frs true 5) rfl (.same _ .nil)))) ?_
    refine pt_r_then ?_
    obtain rfl:=zi h
    exact pt_ret hio rfl (.cellA _ _ _ _ underlying36 rfl sz36 (.tmp _ _ (.tmp _ _ (.tmp _ _ .nil)))) rfl rfl
   ·have h:=cond_f hb4 h
    refine ht_skip ?_
    refine pt_then (ht_seq ?_)
    refine wb [[11],[29,11],[11],[31,11],[11],[33,11]] ?_
    refine wK [6] [30] ?_
    refine wt [(6,.box 36 [vb v3.1.take.Open,vi v3.1.take.Number,vi v3.1.take.Total])] [[32],[34]] ⟨op_store _ _ _ _ _ _ _ _ sz36 rfl rfl rfl rfl (zl rfl) rfl rfl⟩ ?_
    refine wK [9] [] ?_
    refine wt [(9,vi 0)] [] ⟨LOp.drop [_] (op_assign _ _ _ _ rfl rfl)⟩ ?_
    refine wee hn [6,7,8,9] ?_
    refine ht_ret ?_
    obtain rfl:=zi h
    exact pt_ret hio rfl (.cellA _ _ _ _ underlying36 rfl sz36 (.tmp _ _ (.tmp _ _ (.tmp _ _ .nil)))) rfl rfl
theorem ok_spool_rest_sh (p_r:T_Rec) (r:T_Rec) (h:Sh.spool_rest_sh p_r=some r):FnOK Tryz.prog 33 [.agg [.v (.int .i64 p_r.Kind), .v (.bool p_r.Mail.From.Null), .v (.string p_r.Mail.From.Local), .v (.string p_r.Mail.From.Domain), .fl .shr 3 (flatten (map T_Path.enc p_r.Mail.To)), .fl .shr 1 (map (int .u8) p_r.Mail.Body), .v (.bool p_r.Mail.Quiet), .v (.string p_r.Mail.Helo), .v (.int .i64 p_r.Mail.At), .v (.int .i64 p_r.Id), .fl .shr 1 (map (int .i64) p_r.Ids), .v (.int .i64 p_r.Origin), .v (.int .i64 p_r.Number), .v (.int .i64 p_r.Offset), .fl .shr 1 (map (int .u8) p_r.Data)]] (.agg [.v (.int .i64 r.Kind), .v (.bool r.Mail.From.Null), .v (.string r.Mail.From.Local), .v (.string r.Mail.From.Domain), .fl .shr 3 (flatten (map T_Path.enc r.Mail.To)), .fl .shr 1 (map (int .u8) r.Mail.Body), .v (.bool r.Mail.Quiet), .v (.string r.Mail.Helo), .v (.int .i64 r.Mail.At), .v (.int .i64 r.Id), .fl .shr 1 (map (int .i64) r.Ids), .v (.int .i64 r.Origin), .v (.int .i64 r.Number), .v (.int .i64 r.Offset), .fl .shr 1 (map (int .u8) r.Data)]):=by
  unfold Sh.spool_rest_sh at h
  refine yO 29 func33 fun g0 hn hio => ?_
  refine yxx hn 1 ?_
  refine yS (.box 53 [vi 0,vb false,vs z0,vs z0,vz,vz,vb false,vs z0,vi 0,vi 0,vz,vi 0,vi 0,vi 0,vz]) 0 ⟨oA (op_alloc _ _ zr53)⟩ ?_
  refine yee [1,2] ?_
  refine ht_seq ?_
  refine ht_joinS h (fun ((s40,s41,s42,s43,s44,s45,s46,s47,s48,s49,s50,s51,s52,s53):Bool×ByteArray×ByteArray×(List T_Path)×(List Int)×Bool×ByteArray×Int×Int×(List Int)×Int×Int×Int×(List Int))=>[(1,.box 53 [vi p_r.Kind,vb s40,vs s41,vs s42,.fl .shr 3 (flatten (map T_Path.enc s43)),fb s44,vb s45,vs s46,vi s47,vi s48,fi s49,vi s50,vi s51,vi s52,fb s53]),(2,.box 53 [vi 0,vb false,vs z0,vs z0,vz,vz,vb false,vs z0,vi 0,vi 0,vz,vi 0,vi 0,vi 0,vz])]) ?_ ?_
  ·rintro ⟨s40, s41, s42, s43, s44, s45, s46, s47, s48, s49, s50, s51, s52, s53⟩ h
   refine pt_then ?_
   refine yyy hn 2 [1,2] ?_
   refine yyy hn 2 [2] ?_
   refine ht_ret ?_
   obtain rfl:=zi h
   exact pt_ret hio rfl (.cellA _ _ _ _ underlying53 rfl sz53 .nil) rfl rfl
  ·intro u54 h hl55 hr56
   refine yyy hn 2 [1,2,4] ?_
   refine ht_joinS h (fun ((s68,s69,s70,s71,s72,s73,s74,s75,s76,s77,s78,s79,s80,s81):Bool×ByteArray×ByteArray×(List T_Path)×(List Int)×Bool×ByteArray×Int×Int×(List Int)×Int×Int×Int×(List Int))=>[(1,.box 53 [vi p_r.Kind,vb s68,vs s69,vs s70,.fl .shr 3 (flatten (map T_Path.enc s71)),fb s72,vb s73,vs s74,vi s75,vi s76,fi s77,vi s78,vi s79,vi s80,fb s81]),(2,.box 53 [vi 0,vb false,vs z0,vs z0,vz,vz,vb false,vs z0,vi 0,vi 0,vz,vi 0,vi 0,vi 0,vz])]) ?_ ?_
   ·rintro ⟨s68, s69, s70, s71, s72, s73, s74, s75, s76, s77, s78, s79, s80, s81⟩ h
    exact hl55 _ (zi h).symm
   ·intro u82 h hl83 hr84
    refine ht_block ?_
    refine yyy hn 2 [1,2,4,5] ?_
    refine ht_cond _ rfl (fun hb85 => ?_) (fun hb85 => ?_)
    ·have h:=cond_t hb85 h
     refine yx hn 0 ?_
     refine yS (.agg [vb false,vs z0,vs z0,vz,vz,vb false,vs z0,vi 0]) 6 ⟨op_build _ _ _ _ [3,1,1,1,1,1] _ _ underlying51 zr51 (fs51 _ underlying51) Src.nil rfl rfl rfl⟩ ?_
     refine ye [1,2] ?_
     refine pt_inb ?_
     refine pt_sub (fs:=[(1,.box 53 [vi p_r.Kind,vb false,vs z0,vs z0,.fl .shr 3 (flatten (map T_Path.enc [])),fb [],vb false,vs z0,vi 0,vi 0,fi p_r.Ids,vi 0,vi p_r.Number,vi p_r.Offset,fb p_r.Data]),(2,.box 53 [vi 0,vb false,vs z0,vs z0,vz,vz,vb false,vs z0,vi 0,vi 0,vz,vi 0,vi 0,vi 0,vz])]) (.box _ _ (subs_cons (sub_refl _) (subs_cons (sub_refl _) (subs_cons (sub_refl _) (subs_cons (sub_refl _) (subs_cons (sub_nil_shr 3) (subs_cons (sub_nil_shr 1) (subs_cons (sub_refl _) (subs_cons (sub_refl _) (subs_cons (sub_refl _) (subs_cons (sub_refl _) (subs_cons (sub_refl _) (subs_cons (sub_refl _) (subs_cons (sub_refl _) (subs_cons (sub_refl _) (subs_cons (sub_refl _) (subs_nil)))))))))))))))) rfl (.same _ .nil)) ?_
     exact hl83 _ (zi h).symm
    ·have h:=cond_f hb85 h
     refine yyy hn 2 [1,2,4,11] ?_
     refine ht_cond _ rfl (fun hb86 => ?_) (fun hb86 => ?_)
     ·have h:=cond_t hb86 h
      refine yy hn 4 [1,2] ?_
      refine pt_inb ?_
      refine pt_sub (fs:=[(1,.box 53 (vi p_r.Kind::T_Mail.c p_r.Mail [vi p_r.Id,fi [],vi p_r.Origin,vi 0,vi p_r.Offset,fb p_r.Data])),(2,.box 53 [vi 0,vb false,vs z0,vs z0,vz,vz,vb false,vs z0,vi 0,vi 0,vz,vi 0,vi 0,vi 0,vz])]) (.box _ _ (subs_cons (sub_refl _) (subs_cons (sub_refl _) (subs_cons (sub_refl _) (subs_cons (sub_refl _) (subs_cons (sub_refl _) (subs_cons (sub_refl _) (subs_cons (sub_refl _) (subs_cons (sub_refl _) (subs_cons (sub_refl _) (subs_cons (sub_refl _) (subs_cons (sub_nil_shr 1) (subs_cons (sub_refl _) (subs_cons (sub_refl _) (subs_cons (sub_refl _) (subs_cons (sub_refl _) (subs_nil)))))))))))))))) rfl (.same _ .nil)) ?_
      exact hl83 _ (zi h).symm
     ·have h:=cond_f hb86 h
      refine ht_seq ?_
      refine ht_joinS h (fun (s88:Bool)=>[(1,.box 53 (T_Rec.c p_r [])),(2,.box 53 [vi 0,vb false,vs z0,vs z0,vz,vz,vb false,vs z0,vi 0,vi 0,vz,vi 0,vi 0,vi 0,vz]),(4,vi p_r.Kind),(15,vb s88)]) ?_ ?_
      ·rintro s88 h
       refine pt_then ?_
       refine ht_cond _ rfl (fun hb93 => ?_) (fun hb93 => ?_)
       ·have h:=cond_t hb93 h
        refine yy hn 2 [1,2] ?_
        refine pt_inb ?_
        exact hl83 _ (zi h).symm
       ·have h:=cond_f hb93 h
        refine yyy hn 2 [1,2,4,19] ?_
        refine ht_cond _ rfl (fun hb94 => ?_) (fun hb94 => ?_)
        ·have h:=cond_t hb94 h
         refine yy hn 2 [1,2] ?_
         refine pt_inb ?_
         exact hl83 _ (zi h).symm
        ·have h:=cond_f hb94 h
         refine yyy hn 2 [1,2,22] ?_
         refine ht_cond _ rfl (fun hb95 => ?_) (fun hb95 => ?_)
         ·have h:=cond_t hb95 h
          refine yy hn 6 [1,2] ?_
          refine pt_inb ?_
          refine pt_sub (fs:=[(1,.box 53 (vi p_r.Kind::T_Mail.c p_r.Mail [vi p_r.Id,fi p_r.Ids,vi p_r.Origin,vi 0,vi 0,fb []])),(2,.box 53 [vi 0,vb false,vs z0,vs z0,vz,vz,vb false,vs z0,vi 0,vi 0,vz,vi 0,vi 0,vi 0,vz])]) (.box _ _ (subs_cons (sub_refl _) (subs_cons (sub_refl _) (subs_cons (sub_refl _) (subs_cons (sub_refl _) (subs_cons (sub_refl _) (subs_cons (sub_refl _) (subs_cons (sub_refl _) (subs_cons (sub_refl _) (subs_cons (sub_refl _) (subs_cons (sub_refl _) (subs_cons (sub_refl _) (subs_cons (sub_refl _) (subs_cons (sub_refl _) (subs_cons (sub_refl _) (subs_cons (sub_nil_shr 1) (subs_nil)))))))))))))))) rfl (.same _ .nil)) ?_
          exact hl83 _ (zi h).symm
         ·have h:=cond_f hb95 h
          refine ht_skip ?_
          refine pt_inb ?_
          refine pt_pick [0,1] (by kernel_rfl) (es':=[(_,_),(_,_)]) rfl ?_
          exact hl83 _ (zi h).symm
      ·intro u89 h hl90 hr91
       refine yyy hn 2 [1,2,4,15] ?_
       refine ht_cond _ rfl (fun hb92 => ?_) (fun hb92 => ?_)
       ·have h:=cond_t hb92 h
        refine ht_skip ?_
        exact hl90 _ (zi h).symm
       ·have h:=cond_f hb92 h
        refine yx hn 1 ?_
        refine yw [15] 1 ?_
        refine ye [1,2,4,15] ?_
        exact hl90 _ (zi h).symm
theorem ok_spool_empty (p_r:T_Rec) (r:Bool) (h:Sh.spool_empty p_r=some r):FnOK Tryz.prog 32 [.agg [.v (.int .i64 p_r.Kind), .v (.bool p_r.Mail.From.Null), .v (.string p_r.Mail.From.Local), .v (.string p_r.Mail.From.Domain), .fl .shr 3 (flatten (map T_Path.enc p_r.Mail.To)), .fl .shr 1 (map (int .u8) p_r.Mail.Body), .v (.bool p_r.Mail.Quiet), .v (.string p_r.Mail.Helo), .v (.int .i64 p_r.Mail.At), .v (.int .i64 p_r.Id), .fl .shr 1 (map (int .i64) p_r.Ids), .v (.int .i64 p_r.Origin), .v (.int .i64 p_r.Number), .v (.int .i64 p_r.Offset), .fl .shr 1 (map (int .u8) p_r.Data)]] (.v (.bool r)):=by
  unfold Sh.spool_empty at h
  refine yO 76 func32 fun g0 hn hio => ?_
  refine yyy hn 2 [1] ?_
  refine yxx hn 2 ?_
  refine yS (.box 51 [vb false,vs z0,vs z0,vz,vz,vb false,vs z0,vi 0]) 1 ⟨oA (op_alloc _ _ zr51)⟩ ?_
  refine yee [1,3] ?_
  refine ht_seq ?_
  refine ht_joinS h (fun (s1:Bool)=>[(1,.box 53 (T_Rec.c p_r [])),(4,vb s1)]) ?_ ?_
  ·rintro s1 h
   refine pt_then (ht_seq ?_)
   refine ht_joinS h (fun (s5:Bool)=>[(2,vb s5)]) ?_ ?_
   ·rintro s5 h
    refine pt_then (ht_ret ?_)
    obtain rfl:=zi h
    exact pt_ret hio rfl (.tmp _ _ .nil) rfl rfl
   ·intro u6 h hl7 hr8
    refine cond_some h (fun hg3_1 h => ?_) (fun hg3_1 h => ?_)
    ·refine cond_some h (fun hg3_6 h => ?_) (fun hg3_6 h => ?_)
     ·refine cond_some h (fun hg3_11 h => ?_) (fun hg3_11 h => ?_)
      ·refine cond_some h (fun hg3_17 h => ?_) (fun hg3_17 h => ?_)
       ·refine cond_some h (fun hg3_22 h => ?_) (fun hg3_22 h => ?_)
        ·refine cond_some h (fun hg3_27 h => ?_) (fun hg3_27 h => ?_)
         ·refine cond_some h (fun hg3_32 h => ?_) (fun hg3_32 h => ?_)
          ·refine yx hn 2 ?_
           refine yd hg3_1 5 ?_
           refine yd hg3_6 5 ?_
           refine yd hg3_11 6 ?_
           refine yd hg3_17 5 ?_
           refine yd hg3_22 5 ?_
           refine yd hg3_27 5 ?_
           refine yd hg3_32 6 ?_
           refine ye [2] ?_
           exact hl7 _ (zi h).symm
          ·refine yx hn 2 ?_
           refine yd hg3_1 5 ?_
           refine yd hg3_6 5 ?_
           refine yd hg3_11 6 ?_
           refine yd hg3_17 5 ?_
           refine yd hg3_22 5 ?_
           refine yd hg3_27 5 ?_
           refine yd hg3_32 6 ?_
           refine ye [2] ?_
           exact hl7 _ (zi h).symm
         ·refine yx hn 2 ?_
          refine yd hg3_1 5 ?_
          refine yd hg3_6 5 ?_
          refine yd hg3_11 6 ?_
          refine yd hg3_17 5 ?_
          refine yd hg3_22 5 ?_
          refine yd hg3_27 11 ?_
          refine ye [2] ?_
          exact hl7 _ (zi h).symm
        ·refine yx hn 2 ?_
         refine yd hg3_1 5 ?_
         refine yd hg3_6 5 ?_
         refine yd hg3_11 6 ?_
         refine yd hg3_17 5 ?_
         refine yd hg3_22 16 ?_
         refine ye [2] ?_
         exact hl7 _ (zi h).symm
       ·refine yx hn 2 ?_
        refine yd hg3_1 5 ?_
        refine yd hg3_6 5 ?_
        refine yd hg3_11 6 ?_
        refine yd hg3_17 21 ?_
        refine ye [2] ?_
        exact hl7 _ (zi h).symm
      ·refine yx hn 2 ?_
       refine yd hg3_1 5 ?_
       refine yd hg3_6 5 ?_
       refine yd hg3_11 27 ?_
       refine ye [2] ?_
       exact hl7 _ (zi h).symm
     ·refine yx hn 2 ?_
      refine yd hg3_1 5 ?_
      refine yd hg3_6 32 ?_
      refine ye [2] ?_
      exact hl7 _ (zi h).symm
    ·refine yx hn 2 ?_
     refine yd hg3_1 37 ?_
     refine ye [2] ?_
     exact hl7 _ (zi h).symm
  ·intro u2 h hl3 hr4
   refine cond_some h (fun hg2_4 h => ?_) (fun hg2_4 h => ?_)
   ·refine cond_some h (fun hg2_10 h => ?_) (fun hg2_10 h => ?_)
    ·refine cond_some h (fun hg2_16 h => ?_) (fun hg2_16 h => ?_)
     ·refine cond_some h (fun hg2_21 h => ?_) (fun hg2_21 h => ?_)
      ·refine cond_some h (fun hg2_26 h => ?_) (fun hg2_26 h => ?_)
       ·refine yx hn 2 ?_
        refine yS (.agg [vb false,vs z0,vs z0]) 0 ⟨op_build _ _ _ _ [1,1,1] _ _ underlying48 zr48 (fs48 _ underlying48) Src.nil rfl rfl rfl⟩ ?_
        refine yS (vb ((p_r.Mail.From.Null==false)&&((p_r.Mail.From.Local.toList==z0.toList)&&((p_r.Mail.From.Domain.toList==z0.toList)&&true)))) 1 ⟨op_eq_st _ _ [.bool p_r.Mail.From.Null,.string p_r.Mail.From.Local,.string p_r.Mail.From.Domain] [.bool false,.string z0,.string z0] (((p_r.Mail.From.Null==false)&&((p_r.Mail.From.Local.toList==z0.toList)&&((p_r.Mail.From.Domain.toList==z0.toList)&&true)))) _ false (by kernel_rfl) (by kernel_rfl) (by kernel_rfl) (by kernel_rfl) (by kernel_rfl) rfl rfl rfl rfl (by kernel_rfl) rfl⟩ ?_
        refine yd hg2_4 6 ?_
        refine yd hg2_10 6 ?_
        refine yd hg2_16 5 ?_
        refine yd hg2_21 5 ?_
        refine yd hg2_26 5 ?_
        refine ye [1,4] ?_
        exact hl3 _ (zi h).symm
       ·refine yx hn 2 ?_
        refine yS (.agg [vb false,vs z0,vs z0]) 0 ⟨op_build _ _ _ _ [1,1,1] _ _ underlying48 zr48 (fs48 _ underlying48) Src.nil rfl rfl rfl⟩ ?_
        refine yS (vb ((p_r.Mail.From.Null==false)&&((p_r.Mail.From.Local.toList==z0.toList)&&((p_r.Mail.From.Domain.toList==z0.toList)&&true)))) 1 ⟨op_eq_st _ _ [.bool p_r.Mail.From.Null,.string p_r.Mail.From.Local,.string p_r.Mail.From.Domain] [.bool false,.string z0,.string z0] (((p_r.Mail.From.Null==false)&&((p_r.Mail.From.Local.toList==z0.toList)&&((p_r.Mail.From.Domain.toList==z0.toList)&&true)))) _ false (by kernel_rfl) (by kernel_rfl) (by kernel_rfl) (by kernel_rfl) (by kernel_rfl) rfl rfl rfl rfl (by kernel_rfl) rfl⟩ ?_
        refine yd hg2_4 6 ?_
        refine yd hg2_10 6 ?_
        refine yd hg2_16 5 ?_
        refine yd hg2_21 5 ?_
        refine yd hg2_26 5 ?_
        refine ye [1,4] ?_
        exact hl3 _ (zi h).symm
      ·refine yx hn 2 ?_
       refine yS (.agg [vb false,vs z0,vs z0]) 0 ⟨op_build _ _ _ _ [1,1,1] _ _ underlying48 zr48 (fs48 _ underlying48) Src.nil rfl rfl rfl⟩ ?_
       refine yS (vb ((p_r.Mail.From.Null==false)&&((p_r.Mail.From.Local.toList==z0.toList)&&((p_r.Mail.From.Domain.toList==z0.toList)&&true)))) 1 ⟨op_eq_st _ _ [.bool p_r.Mail.From.Null,.string p_r.Mail.From.Local,.string p_r.Mail.From.Domain] [.bool false,.string z0,.string z0] (((p_r.Mail.From.Null==false)&&((p_r.Mail.From.Local.toList==z0.toList)&&((p_r.Mail.From.Domain.toList==z0.toList)&&true)))) _ false (by kernel_rfl) (by kernel_rfl) (by kernel_rfl) (by kernel_rfl) (by kernel_rfl) rfl rfl rfl rfl (by kernel_rfl) rfl⟩ ?_
       refine yd hg2_4 6 ?_
       refine yd hg2_10 6 ?_
       refine yd hg2_16 5 ?_
       refine yd hg2_21 10 ?_
       refine ye [1,4] ?_
       exact hl3 _ (zi h).symm
     ·refine yx hn 2 ?_
      refine yS (.agg [vb false,vs z0,vs z0]) 0 ⟨op_build _ _ _ _ [1,1,1] _ _ underlying48 zr48 (fs48 _ underlying48) Src.nil rfl rfl rfl⟩ ?_
      refine yS (vb ((p_r.Mail.From.Null==false)&&((p_r.Mail.From.Local.toList==z0.toList)&&((p_r.Mail.From.Domain.toList==z0.toList)&&true)))) 1 ⟨op_eq_st _ _ [.bool p_r.Mail.From.Null,.string p_r.Mail.From.Local,.string p_r.Mail.From.Domain] [.bool false,.string z0,.string z0] (((p_r.Mail.From.Null==false)&&((p_r.Mail.From.Local.toList==z0.toList)&&((p_r.Mail.From.Domain.toList==z0.toList)&&true)))) _ false (by kernel_rfl) (by kernel_rfl) (by kernel_rfl) (by kernel_rfl) (by kernel_rfl) rfl rfl rfl rfl (by kernel_rfl) rfl⟩ ?_
      refine yd hg2_4 6 ?_
      refine yd hg2_10 6 ?_
      refine yd hg2_16 15 ?_
      refine ye [1,4] ?_
      exact hl3 _ (zi h).symm
    ·refine yx hn 2 ?_
     refine yS (.agg [vb false,vs z0,vs z0]) 0 ⟨op_build _ _ _ _ [1,1,1] _ _ underlying48 zr48 (fs48 _ underlying48) Src.nil rfl rfl rfl⟩ ?_
     refine yS (vb ((p_r.Mail.From.Null==false)&&((p_r.Mail.From.Local.toList==z0.toList)&&((p_r.Mail.From.Domain.toList==z0.toList)&&true)))) 1 ⟨op_eq_st _ _ [.bool p_r.Mail.From.Null,.string p_r.Mail.From.Local,.string p_r.Mail.From.Domain] [.bool false,.string z0,.string z0] (((p_r.Mail.From.Null==false)&&((p_r.Mail.From.Local.toList==z0.toList)&&((p_r.Mail.From.Domain.toList==z0.toList)&&true)))) _ false (by kernel_rfl) (by kernel_rfl) (by kernel_rfl) (by kernel_rfl) (by kernel_rfl) rfl rfl rfl rfl (by kernel_rfl) rfl⟩ ?_
     refine yd hg2_4 6 ?_
     refine yd hg2_10 21 ?_
     refine ye [1,4] ?_
     exact hl3 _ (zi h).symm
   ·refine yx hn 2 ?_
    refine yS (.agg [vb false,vs z0,vs z0]) 0 ⟨op_build _ _ _ _ [1,1,1] _ _ underlying48 zr48 (fs48 _ underlying48) Src.nil rfl rfl rfl⟩ ?_
    refine yS (vb ((p_r.Mail.From.Null==false)&&((p_r.Mail.From.Local.toList==z0.toList)&&((p_r.Mail.From.Domain.toList==z0.toList)&&true)))) 1 ⟨op_eq_st _ _ [.bool p_r.Mail.From.Null,.string p_r.Mail.From.Local,.string p_r.Mail.From.Domain] [.bool false,.string z0,.string z0] (((p_r.Mail.From.Null==false)&&((p_r.Mail.From.Local.toList==z0.toList)&&((p_r.Mail.From.Domain.toList==z0.toList)&&true)))) _ false (by kernel_rfl) (by kernel_rfl) (by kernel_rfl) (by kernel_rfl) (by kernel_rfl) rfl rfl rfl rfl (by kernel_rfl) rfl⟩ ?_
    refine yd hg2_4 27 ?_
    refine ye [1,4] ?_
    exact hl3 _ (zi h).symm
theorem ok_strings_splitSeq (s:ByteArray) (sep:ByteArray) (sepSave:Int) (r:(ByteArray×ByteArray×Int)) (h:Sh.strings_splitSeq s sep sepSave=some r):FnOK Tryz.prog 93 [.v (.string s), .v (.string sep), .v (.int .i64 sepSave)] (.cloB 98 [.box 9 [.v (.string r.1)], .box 9 [.v (.string r.2.1)], .box 3 [.v (.int .i64 r.2.2)]]):=by
  unfold Sh.strings_splitSeq at h
  refine yO 8 func93 fun g0 hn hio => ?_
  refine yyy hn 4 [3,4,5] ?_
  refine yxx hn 0 ?_
  refine yk [4,3,5] [] ?_
  refine yt (7,.cloB 98 [.box 9 [vs sep],.box 9 [vs s],.box 3 [vi sepSave]]) 0 ⟨op_mkclo _ _ [4,3,5] [.box 9 [vs sep],.box 9 [vs s],.box 3 [vi sepSave]] rfl rfl rfl⟩ ?_
  refine ya 0 ?_
  refine yee [6] ?_
  refine ht_ret ?_
  obtain rfl:=zi h
  exact pt_ret hio rfl (.tmp _ _ .nil) rfl rfl
theorem ok_strings_SplitSeq (s:ByteArray) (sep:ByteArray) (r:(ByteArray×ByteArray×Int)) (h:Sh.strings_SplitSeq s sep=some r):FnOK Tryz.prog 79 [.v (.string s), .v (.string sep)] (.cloB 98 [.box 9 [.v (.string r.1)], .box 9 [.v (.string r.2.1)], .box 3 [.v (.int .i64 r.2.2)]]):=by
  unfold Sh.strings_SplitSeq at h
  refine yO 8 func79 fun g0 hn hio => ?_
  refine yyy hn 1 [0,1] ?_
  refine ht_seq ?_
  obtain ⟨v1, hv1, h⟩:=zn h
  refine yx hn 2 ?_
  refine yk [] [5,6] ?_
  refine yt (7,.cloB 98 [.box 9 [vs v1.1],.box 9 [vs v1.2.1],.box 3 [vi v1.2.2]]) 0 ⟨op_callS _ _ 93 _ _ rfl call93 rfl rfl (ok_strings_splitSeq s sep 0 _ hv1) rfl⟩ ?_
  refine ya 0 ?_
  refine yee [4] ?_
  refine ht_ret ?_
  obtain rfl:=zi h
  exact pt_ret hio rfl (.tmp _ _ .nil) rfl rfl
theorem ok_unicode_utf8_decodeRuneInStringSlow (mx:Int) (s:ByteArray) (r:(Int×Int)) (h:Sh.unicode_utf8_decodeRuneInStringSlow s=some r):FnG Tryz.prog (GL mx) 101 [.v (.string s)] (.tup [.v (.int .i32 r.1), .v (.int .i64 r.2)]):=by
  unfold Sh.unicode_utf8_decodeRuneInStringSlow at h
  refine yG 117 func101 fun g0 hn hio => ?_
  refine yyy hn 2 [0,117] ?_
  refine yyy hn 3 [0,117,4] ?_
  refine ht_seq ?_
  refine yyy hn 2 [0,117,4,16] ?_
  refine ht_cond _ rfl (fun hb1 => ?_) (fun hb1 => ?_)
  ·have h:=cond_t hb1 h
   refine yyy hn 2 [117,2,3] ?_
   refine ht_ret ?_
   refine pt_pick [1,2] (by kernel_rfl) (es':=[(_,_),(_,_)]) rfl ?_
   refine pt_r_then ?_
   obtain rfl:=zi h
   exact pt_ret hio rfl (.tmp _ _ (.tmp _ _ .nil)) rfl rfl
  ·have h:=cond_f hb1 h
   refine ht_skip ?_
   refine pt_then (ht_seq ?_)
   obtain ⟨v2, hv2, h⟩:=zn h
   refine yx hn 1 ?_
   refine ys 1 ⟨lh hv2⟩ ?_
   refine yee [0,117,4,5] ?_
   refine ht_seq ?_
   obtain ⟨v3, hv3, h⟩:=zn h
   obtain ⟨v4, hv4, h⟩:=zn h
   refine yx hn 1 ?_
   refine yS (.v (.pointer (some ⟨1,(0+v3 * 1),none⟩))) 0 ⟨op_ix_globz _ _ _ _ 256 1 0 _ 1 _ underlying141 sz5 rfl rfl (ix_ok hv3).1 (ix_ok hv3).2⟩ ?_
   refine yS (.v (.int .u8 v4)) 1 ⟨op_load_glob _ _ 117 1 _ _ _ underlying5 rfl rfl rfl (gl_mem1 mx) (map_get1 hv4)⟩ ?_
   refine yee [0,117,4,5,6] ?_
   refine ht_seq ?_
   refine yyy hn 2 [0,117,4,5,6,23] ?_
   refine ht_cond _ rfl (fun hb5 => ?_) (fun hb5 => ?_)
   ·have h:=cond_t hb5 h
    refine ht_seq ?_
    obtain ⟨v6, hv6, h⟩:=zn h
    obtain ⟨v7, hv7, h⟩:=zn h
    obtain ⟨v8, hv8, h⟩:=zn h
    refine yx hn 1 ?_
    refine ys 0 ⟨lv hv6⟩ ?_
    refine ys 0 ⟨lB (shl_ok hv7)⟩ ?_
    refine ys 1 ⟨lB (shr_ok hv8)⟩ ?_
    refine yee [0,117,7] ?_
    refine ht_seq ?_
    obtain ⟨v9, hv9, h⟩:=zn h
    obtain ⟨v10, hv10, h⟩:=zn h
    obtain ⟨v11, hv11, h⟩:=zn h
    obtain ⟨v12, hv12, h⟩:=zn h
    obtain ⟨v13, hv13, h⟩:=zn h
    refine yx hn 1 ?_
    refine ys 0 ⟨lh hv9⟩ ?_
    refine ys 1 ⟨lv hv10⟩ ?_
    refine ys 1 ⟨lb hv11⟩ ?_
    refine ys 0 ⟨lb hv12⟩ ?_
    refine ys 2 ⟨lb hv13⟩ ?_
    refine yee [117,2,3] ?_
    refine ht_ret ?_
    refine pt_pick [1,2] (by kernel_rfl) (es':=[(_,_),(_,_)]) rfl ?_
    refine pt_r_then ?_
    obtain rfl:=zi h
    exact pt_ret hio rfl (.tmp _ _ (.tmp _ _ .nil)) rfl rfl
   ·have h:=cond_f hb5 h
    cases h
theorem ok_unicode_utf8_DecodeRuneInString (mx:Int) (s:ByteArray) (r:(Int×Int)) (h:Sh.unicode_utf8_DecodeRuneInString s=some r):FnG Tryz.prog (GL mx) 99 [.v (.string s)] (.tup [.v (.int .i32 r.1), .v (.int .i64 r.2)]):=by
  unfold Sh.unicode_utf8_DecodeRuneInString at h
  refine yG 19 func99 fun g0 hn hio => ?_
  refine yyy hn 2 [0,19] ?_
  refine ht_seq ?_
  refine ht_seq ?_
  refine ht_joinS h (fun (s2:Bool)=>[(0,vs s),(19,.glob (GL mx)),(10,vb s2)]) ?_ ?_
  ·rintro s2 h
   refine pt_then ?_
   refine ht_cond _ rfl (fun hb6 => ?_) (fun hb6 => ?_)
   ·have h:=cond_t hb6 h
    refine ht_seq ?_
    obtain ⟨v7, hv7, h⟩:=zn h
    obtain ⟨v8, hv8, h⟩:=zn h
    refine yx hn 1 ?_
    refine ys 0 ⟨lh hv7⟩ ?_
    refine ys 2 ⟨lv hv8⟩ ?_
    refine yee [19,2,3] ?_
    refine ht_ret ?_
    refine pt_pick [1,2] (by kernel_rfl) (es':=[(_,_),(_,_)]) rfl ?_
    refine pt_r_then ?_
    obtain rfl:=zi h
    exact pt_ret hio rfl (.tmp _ _ (.tmp _ _ .nil)) rfl rfl
   ·have h:=cond_f hb6 h
    obtain ⟨v9, hv9, h⟩:=zn h
    refine yx hn 1 ?_
    refine ys 0 ⟨lg call101 (ok_unicode_utf8_decodeRuneInStringSlow _ _ _ hv9) 19⟩ ?_
    refine ym 4 ?_
    refine yee [19,2,3] ?_
    refine ht_ret ?_
    refine pt_pick [1,2] (by kernel_rfl) (es':=[(_,_),(_,_)]) rfl ?_
    obtain rfl:=zi h
    exact pt_ret hio rfl (.tmp _ _ (.tmp _ _ .nil)) rfl rfl
  ·intro u3 h hl4 hr5
   refine cond_some h (fun hg1_2 h => ?_) (fun hg1_2 h => ?_)
   ·obtain ⟨v1, hv1, h⟩:=zn h
    refine yx hn 3 ?_
    refine yd hg1_2 1 ?_
    refine ys 2 ⟨lh hv1⟩ ?_
    refine ye [0,19,10] ?_
    exact hl4 _ (zi h).symm
   ·refine yx hn 3 ?_
    refine yd hg1_2 4 ?_
    refine ye [0,19,10] ?_
    exact hl4 _ (zi h).symm
theorem ok_strings_Index (s sub:ByteArray) (r:Int) (h:Sh.strings_Index s sub=some r):FnOK Tryz.prog 100 [.v (.string s), .v (.string sub)] (.v (.int .i64 r)):=lib_strings_Index Tryz.strings_Index_one s sub r h
theorem ok_strings_splitSeq_1 (mx:Int) (l:Nat) {S:Type} (J:S→InvT) (Y:ByteArray→S→Option (S×Bool)) (hY:YieldOK Tryz.prog l (fun x => .v (.string x)) Y J) (c0:ByteArray) (c1:ByteArray) (c2:Int) (st r:S) (h:Sh.strings_splitSeq_1 Y c0 c1 c2 st=some r):FnI Tryz.prog (GL mx) 98 l [.box 9 [.v (.string c0)], .box 9 [.v (.string c1)], .box 3 [.v (.int .i64 c2)]] (J st) (J r):=by
  unfold Sh.strings_splitSeq_1 at h
  refine yI 52 func98 fun g0 hn hio => ?_
  refine ht_seq ?_
  refine yyy hn 3 [0,1,2,3,52,53,11] ?_
  refine ht_cond _ rfl (fun hb1 => ?_) (fun hb1 => ?_)
  ·have h:=cond_t hb1 h
   refine ht_seq ?_
   refine ht_pick [0,2,4,5] (by kernel_rfl) (es':=[(_,_),(_,_),(_,_),(_,_)]) rfl ?_
   refine ht_loopS h (fun ((s12,s13):ByteArray×S)=>[(0,.v (.func (.yield l) #[] #[])),(2,.box 9 [vs s12]),(52,.glob (GL mx)),(53,.inv (J s13))]) (fun (s16:S)=>[(52,.glob (GL mx)),(53,.inv (J s16))]) ?_ ?_
   ·rintro s16 h
    refine pt_then (ht_ret ?_)
    refine pt_pick [1] (by kernel_rfl) (es':=[(53,.inv (J s16))]) rfl ?_
    refine pt_r_then ?_
    obtain rfl:=zi h
    exact pt_retI hio rfl rfl rfl
   ·rintro u17 hl18 hr19 ⟨s12, s13⟩ rr22 h ho20
    refine ht_seq ?_
    refine yyy hn 3 [0,2,52,53,14] ?_
    refine ht_cond _ rfl (fun hb23 => ?_) (fun hb23 => ?_)
    ·have h:=cond_t hb23 h
     refine ht_skip ?_
     refine pt_then ?_
     refine ht_block ?_
     refine ht_seq ?_
     obtain ⟨v3, hv3, h⟩:=zn h
     refine yx hn 1 ?_
     refine ys 0 ⟨lg call99 (ok_unicode_utf8_DecodeRuneInString _ _ _ hv3) 52⟩ ?_
     refine ym 4 ?_
     refine yee [0,2,52,53,6] ?_
     refine ht_seq ?_
     refine ht_seq ?_
     obtain ⟨v4, hv4, h⟩:=zn h
     obtain ⟨v5, hv5, h⟩:=zn h
     refine yx hn 3 ?_
     refine yS (vs v4) 0 ⟨op_substr _ _ _ 0 v3.2 _ underlying9 rfl rfl ⟨_,rfl⟩ hv4⟩ ?_
     refine yk [53] [23,20] ?_
     refine ytt (53,.inv (J v5.1)) (24,vb v5.2) 1 ⟨op_yield _ _ 53 l v4 s13 v5 hY hv5 rfl rfl rfl⟩ ?_
     refine yee [0,2,52,53,6,25] ?_
     refine ht_cond _ rfl (fun hb24 => ?_) (fun hb24 => ?_)
     ·have h:=cond_t hb24 h
      refine ht_ret ?_
      refine pt_pick [3] (by kernel_rfl) (es':=[(53,.inv (J v5.1))]) rfl ?_
      refine pt_r_then ?_
      refine pt_r_in ?_
      refine pt_r_then ?_
      refine pt_r_in ?_
      refine pt_r_then ?_
      refine pt_r_then ?_
      have h:=hr19 _ (ho20 _ (zi h).symm).symm
      obtain rfl:=zi h
      exact pt_retI hio rfl rfl rfl
     ·have h:=cond_f hb24 h
      refine ht_skip ?_
      refine pt_then ?_
      obtain ⟨v7, hv7, h⟩:=zn h
      refine yx hn 2 ?_
      refine yS (vs v7) 1 ⟨op_substr _ _ _ v3.2 (s12.size:Int) _ underlying9 rfl ⟨_,rfl⟩ rfl hv7⟩ ?_
      refine ye [0,2,52,53] ?_
      refine pt_inb ?_
      exact pt_next _ (zi h).symm rfl
    ·have h:=cond_f hb23 h
     refine ht_exit ?_
     refine pt_x_then ?_
     refine pt_x_then ?_
     refine pt_x_in ?_
     refine pt_pick [2,3] (by kernel_rfl) (es':=[(_,_),(_,_)]) rfl ?_
     exact hl18 _ (ho20 _ (zi h).symm).symm
  ·have h:=cond_f hb1 h
   refine ht_skip ?_
   refine pt_then (ht_seq ?_)
   refine ht_pick [0,1,2,3,4,5] (by kernel_rfl) (es':=[(_,_),(_,_),(_,_),(_,_),(_,_),(_,_)]) rfl ?_
   refine ht_loopS h (fun ((s37,s38):ByteArray×S)=>[(0,.v (.func (.yield l) #[] #[])),(1,.box 9 [vs c0]),(2,.box 9 [vs s37]),(3,.box 3 [vi c2]),(52,.glob (GL mx)),(53,.inv (J s38))]) (fun ((s41,s42):ByteArray×S)=>[(0,.v (.func (.yield l) #[] #[])),(2,.box 9 [vs s41]),(52,.glob (GL mx)),(53,.inv (J s42))]) ?_ ?_
   ·rintro ⟨s41, s42⟩ h
    refine pt_then ?_
    obtain ⟨v51, hv51, h⟩:=zn h
    refine yx hn 2 ?_
    refine yk [53] [50,49] ?_
    refine ytt (53,.inv (J v51.1)) (51,vb v51.2) 0 ⟨op_yield _ _ 53 l s41 s42 v51 hY hv51 rfl rfl rfl⟩ ?_
    refine ye [52,53] ?_
    refine pt_pick [1] (by kernel_rfl) (es':=[(53,.inv (J v51.1))]) rfl ?_
    obtain rfl:=zi h
    exact pt_endI hio rfl rfl rfl
   ·rintro u43 hl44 hr45 ⟨s37, s38⟩ rr48 h ho46
    refine ht_block ?_
    refine ht_seq ?_
    obtain ⟨v25, hv25, h⟩:=zn h
    refine yx hn 2 ?_
    refine ys 1 ⟨lk call100 (ok_strings_Index _ _ _ hv25)⟩ ?_
    refine yee [0,1,2,3,52,53,7] ?_
    refine ht_seq ?_
    refine yyy hn 2 [0,1,2,3,52,53,7,33] ?_
    refine ht_cond _ rfl (fun hb49 => ?_) (fun hb49 => ?_)
    ·have h:=cond_t hb49 h
     refine ht_exit ?_
     refine pt_x_then ?_
     refine pt_x_out (by decide) ?_
     refine pt_x_then ?_
     refine pt_x_in ?_
     refine pt_pick [0,2,4,5] (by kernel_rfl) (es':=[(_,_),(_,_),(_,_),(_,_)]) rfl ?_
     exact hl44 _ (ho46 _ (zi h).symm).symm
    ·have h:=cond_f hb49 h
     refine ht_skip ?_
     refine pt_then (ht_seq ?_)
     obtain ⟨v27, hv27, h⟩:=zn h
     obtain ⟨v28, hv28, h⟩:=zn h
     refine yx hn 3 ?_
     refine ys 0 ⟨lb hv27⟩ ?_
     refine yS (vs v28) 1 ⟨op_substr _ _ _ 0 v27 _ underlying9 rfl rfl ⟨_,rfl⟩ hv28⟩ ?_
     refine yee [0,1,2,3,52,53,7,8] ?_
     refine ht_seq ?_
     refine ht_seq ?_
     obtain ⟨v29, hv29, h⟩:=zn h
     refine yx hn 2 ?_
     refine yk [53] [40,39] ?_
     refine ytt (53,.inv (J v29.1)) (41,vb v29.2) 1 ⟨op_yield _ _ 53 l v28 s38 v29 hY hv29 rfl rfl rfl⟩ ?_
     refine yee [0,1,2,3,52,53,7,42] ?_
     refine ht_cond _ rfl (fun hb50 => ?_) (fun hb50 => ?_)
     ·have h:=cond_t hb50 h
      refine ht_ret ?_
      refine pt_pick [5] (by kernel_rfl) (es':=[(53,.inv (J v29.1))]) rfl ?_
      refine pt_r_then ?_
      refine pt_r_in ?_
      refine pt_r_then ?_
      refine pt_r_in ?_
      refine pt_r_then ?_
      have h:=hr45 _ (ho46 _ (zi h).symm).symm
      obtain rfl:=zi h
      exact pt_retI hio rfl rfl rfl
     ·have h:=cond_f hb50 h
      refine ht_skip ?_
      refine pt_then ?_
      obtain ⟨v31, hv31, h⟩:=zn h
      obtain ⟨v32, hv32, h⟩:=zn h
      refine yx hn 4 ?_
      refine ys 0 ⟨lb hv31⟩ ?_
      refine yS (vs v32) 1 ⟨op_substr _ _ _ v31 (s37.size:Int) _ underlying9 rfl ⟨_,rfl⟩ rfl hv32⟩ ?_
      refine ye [0,1,2,3,52,53] ?_
      refine pt_inb ?_
      exact pt_next _ (zi h).symm rfl
theorem ok_path_alphanumeric (c:Int) (r:Bool) (h:Sh.path_alphanumeric c=some r):FnOK Tryz.prog 82 [.v (.int .u8 c)] (.v (.bool r)):=by
  unfold Sh.path_alphanumeric at h
  refine yO 25 func82 fun g0 hn hio => ?_
  refine yyy hn 1 [0] ?_
  refine ht_seq ?_
  refine ht_joinS h (fun (s1:Bool)=>[(2,vb s1)]) ?_ ?_
  ·rintro s1 h
   refine pt_then (ht_ret ?_)
   obtain rfl:=zi h
   exact pt_ret hio rfl (.tmp _ _ .nil) rfl rfl
  ·intro u2 h hl3 hr4
   refine cond_some h (fun hg1_2 h => ?_) (fun hg1_2 h => ?_)
   ·refine cond_some h (fun hg1_6 h => ?_) (fun hg1_6 h => ?_)
    ·refine yx hn 3 ?_
     refine yd hg1_2 4 ?_
     refine yd hg1_6 16 ?_
     refine ye [2] ?_
     exact hl3 _ (zi h).symm
    ·refine cond_some h (fun hg1_9 h => ?_) (fun hg1_9 h => ?_)
     ·refine cond_some h (fun hg1_14 h => ?_) (fun hg1_14 h => ?_)
      ·refine yx hn 3 ?_
       refine yd hg1_2 4 ?_
       refine yd hg1_6 3 ?_
       refine yd hg1_9 5 ?_
       refine yd hg1_14 8 ?_
       refine ye [2] ?_
       exact hl3 _ (zi h).symm
      ·refine cond_some h (fun hg1_17 h => ?_) (fun hg1_17 h => ?_)
       ·refine yx hn 3 ?_
        refine yd hg1_2 4 ?_
        refine yd hg1_6 3 ?_
        refine yd hg1_9 5 ?_
        refine yd hg1_14 3 ?_
        refine yd hg1_17 5 ?_
        refine ye [2] ?_
        exact hl3 _ (zi h).symm
       ·refine yx hn 3 ?_
        refine yd hg1_2 4 ?_
        refine yd hg1_6 3 ?_
        refine yd hg1_9 5 ?_
        refine yd hg1_14 3 ?_
        refine yd hg1_17 5 ?_
        refine ye [2] ?_
        exact hl3 _ (zi h).symm
     ·refine cond_some h (fun hg1_17 h => ?_) (fun hg1_17 h => ?_)
      ·refine yx hn 3 ?_
       refine yd hg1_2 4 ?_
       refine yd hg1_6 3 ?_
       refine yd hg1_9 8 ?_
       refine yd hg1_17 5 ?_
       refine ye [2] ?_
       exact hl3 _ (zi h).symm
      ·refine yx hn 3 ?_
       refine yd hg1_2 4 ?_
       refine yd hg1_6 3 ?_
       refine yd hg1_9 8 ?_
       refine yd hg1_17 5 ?_
       refine ye [2] ?_
       exact hl3 _ (zi h).symm
   ·refine cond_some h (fun hg1_9 h => ?_) (fun hg1_9 h => ?_)
    ·refine cond_some h (fun hg1_14 h => ?_) (fun hg1_14 h => ?_)
     ·refine yx hn 3 ?_
      refine yd hg1_2 7 ?_
      refine yd hg1_9 5 ?_
      refine yd hg1_14 8 ?_
      refine ye [2] ?_
      exact hl3 _ (zi h).symm
     ·refine cond_some h (fun hg1_17 h => ?_) (fun hg1_17 h => ?_)
      ·refine yx hn 3 ?_
       refine yd hg1_2 7 ?_
       refine yd hg1_9 5 ?_
       refine yd hg1_14 3 ?_
       refine yd hg1_17 5 ?_
       refine ye [2] ?_
       exact hl3 _ (zi h).symm
      ·refine yx hn 3 ?_
       refine yd hg1_2 7 ?_
       refine yd hg1_9 5 ?_
       refine yd hg1_14 3 ?_
       refine yd hg1_17 5 ?_
       refine ye [2] ?_
       exact hl3 _ (zi h).symm
    ·refine cond_some h (fun hg1_17 h => ?_) (fun hg1_17 h => ?_)
     ·refine yx hn 3 ?_
      refine yd hg1_2 7 ?_
      refine yd hg1_9 8 ?_
      refine yd hg1_17 5 ?_
      refine ye [2] ?_
      exact hl3 _ (zi h).symm
     ·refine yx hn 3 ?_
      refine yd hg1_2 7 ?_
      refine yd hg1_9 8 ?_
      refine yd hg1_17 5 ?_
      refine ye [2] ?_
      exact hl3 _ (zi h).symm
theorem ok_strings_IndexByte (s:ByteArray) (c r:Int) (h:Sh.strings_IndexByte s c=some r):FnOK Tryz.prog 83 [.v (.string s), .v (.int .u8 c)] (.v (.int .i64 r)):=lib_strings_IndexByte Tryz.strings_IndexByte s c r h
theorem ok_path_atom_1 (c:Int) (r:Bool) (h:Sh.path_atom_1 c=some r):FnOK Tryz.prog 81 [.v (.int .u8 c)] (.v (.bool r)):=by
  unfold Sh.path_atom_1 at h
  refine yO 10 func81 fun g0 hn hio => ?_
  refine yyy hn 1 [0] ?_
  refine ht_seq ?_
  refine ht_joinS h (fun (s3:Bool)=>[(2,vb s3)]) ?_ ?_
  ·rintro s3 h
   refine pt_then (ht_ret ?_)
   obtain rfl:=zi h
   exact pt_ret hio rfl (.tmp _ _ .nil) rfl rfl
  ·intro u4 h hl5 hr6
   obtain ⟨v1, hv1, h⟩:=zn h
   refine cond_some h (fun hg1_2 h => ?_) (fun hg1_2 h => ?_)
   ·refine yx hn 1 ?_
    refine ys 1 ⟨lk call82 (ok_path_alphanumeric _ _ hv1)⟩ ?_
    refine yd hg1_2 5 ?_
    refine ye [2] ?_
    exact hl5 _ (zi h).symm
   ·obtain ⟨v2, hv2, h⟩:=zn h
    refine yx hn 1 ?_
    refine ys 1 ⟨lk call82 (ok_path_alphanumeric _ _ hv1)⟩ ?_
    refine yd hg1_2 1 ?_
    refine ys 3 ⟨lk call83 (ok_strings_IndexByte _ _ _ hv2)⟩ ?_
    refine ye [2] ?_
    exact hl5 _ (zi h).symm
end Go.Proofs.YthhebpiaknfnhaaGreatDoor
