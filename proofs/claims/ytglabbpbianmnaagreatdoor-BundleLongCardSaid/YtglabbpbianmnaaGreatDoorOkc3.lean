/-
  The model's runs are what is told in Lean.
-/
import Derived.Test.YtglabbpbianmnaaGreatDoorProg
import Derived.KernelRfl
import Derived.Test.YtglabbpbianmnaaGreatDoorShelf
import Derived.Test.YtglabbpbianmnaaGreatDoorIdx
import Derived.Test.YtglabbpbianmnaaGreatDoorBH
import Derived.Test.YtglabbpbianmnaaGreatDoorC1
import Derived.Test.YtglabbpbianmnaaGreatDoorOkc2
set_option linter.unusedVariables false
set_option linter.unusedSimpArgs false
set_option maxHeartbeats 1000000
namespace Go.Proofs.YtglabbpbianmnaaGreatDoor
open Go.Abs Go.Abs.Sh Tryz
open List (map flatten)
open Value (int)
theorem ok_dots_lines_1 (mx:Int) (l:Nat) {S:Type} (J:S→InvT) (Y:(List Int)→S→Option (S×Bool)) (hY:YieldOK Tryz.prog l (fun x => .fl .shr 1 (map (int .u8) x)) Y J) (c0:(List Int)) (st r:S) (h:Sh.dots_lines_1 Y c0 st=some r):FnI Tryz.prog (GL mx) 89 l [.box 25 [.fl .shr 1 (map (int .u8) c0)]] (J st) (J r):=by
  unfold Sh.dots_lines_1 at h
  refine yI 23 func89 fun g0 hn hio => ?_
  refine ht_loopS h (fun ((s17,s18):(List Int)×S)=>[(0,.v (.func (.yield l) #[] #[])),(1,.box 25 [fb s17]),(23,.glob (GL mx)),(24,.inv (J s18))]) (fun (():Unit)=>[]) ?_ ?_
  ·rintro ⟨⟩ h
   cases h
  ·rintro u25 hl26 hr27 ⟨s17, s18⟩ rr30 h ho28
   refine ht_block ?_
   refine ht_seq ?_
   obtain ⟨v1, hv1, h⟩:=zn h
   refine yx hn 1 ?_
   refine yS (.fl (.own 5) 1 (map (int .u8) [13,10])) 0 ⟨op_buildSlice _ _ 1 (.int .u8 0) (map (int .u8) [13,10]) [(0,.int .u8 13),(1,.int .u8 10)] underlying25 sz5 zr5 (fun _ V w o a hv hes=>by simp only [List.map_toArray,List.map_cons,List.map_nil]; try rfl) (litfill (by simp [Instr.fill,Value.cells]; rfl) (by simp [List.range,List.range.loop] <;> rfl)) (by simp [Value.oneCell']) rfl (by decide) (by decide) (by decide)⟩ ?_
   refine yk [8] [] ?_
   refine yt (9,.fl .ro 1 (map (int .u8) [13,10])) 0 ⟨op_conv_mark _ _ _ underlying25 underlying5 (by intro h; cases h)⟩ ?_
   refine yk [] [7,9,23] ?_
   refine yt (10,.tup [fb v1.1,fb v1.2.1,vb v1.2.2]) 0 ⟨op_callSG _ _ 23 34 _ _ rfl call34 rfl rfl rfl (fun _ h=>h) (ok_bytes_Cut_sh mx s17 [13,10] _ hv1) rfl⟩ ?_
   refine ym 6 ?_
   refine yee [0,1,23,24,3,4,5] ?_
   refine ht_seq ?_
   refine ht_seq ?_
   refine ht_joinS h (fun ((s31,s32):S×Bool)=>[(0,.v (.func (.yield l) #[] #[])),(1,.box 25 [fb s17]),(23,.glob (GL mx)),(24,.inv (J s31)),(4,fb v1.2.1),(21,vb s32)]) ?_ ?_
   ·rintro ⟨s31, s32⟩ h
    refine pt_then ?_
    refine ht_cond _ rfl (fun hb36 => ?_) (fun hb36 => ?_)
    ·have h:=cond_t hb36 h
     refine ht_ret ?_
     refine pt_pick [3] (by kernel_rfl) (es':=[(24,.inv (J s31))]) rfl ?_
     refine pt_r_then ?_
     refine pt_r_in ?_
     refine pt_r_then ?_
     refine pt_r_in ?_
     have h:=hr27 _ (ho28 _ (zi h).symm).symm
     obtain rfl:=zi h
     exact pt_retI hio rfl rfl rfl
    ·have h:=cond_f hb36 h
     refine ht_skip ?_
     refine pt_then ?_
     refine yy hn 2 [0,1,23,24] ?_
     refine pt_inb ?_
     exact pt_next _ (zi h).symm rfl
   ·intro u33 h hl34 hr35
    refine cond_some h (fun hg1_2 h => ?_) (fun hg1_2 h => ?_)
    ·refine yx hn 3 ?_
     refine yd hg1_2 5 ?_
     refine ye [0,1,23,24,4,21] ?_
     exact hl34 _ (zi h).symm
    ·obtain ⟨v2, hv2, h⟩:=zn h
     refine yx hn 3 ?_
     refine yd hg1_2 2 ?_
     refine yk [24] [18,17] ?_
     refine ytt (24,.inv (J v2.1)) (19,vb v2.2) 2 ⟨op_yield _ _ 24 l v1.1 s18 v2 hY hv2 rfl rfl rfl⟩ ?_
     refine ye [0,1,23,24,4,21] ?_
     exact hl34 _ (zi h).symm
theorem ok_bytes_IndexAny (mx:Int) (s:List Int) (c:ByteArray) (r:Int) (h:Sh.bytes_IndexAny s c=some r):FnG Tryz.prog (GL mx) 105 [.fl .shr 1 (map (int .u8) s), .v (.string c)] (.v (.int .i64 r)) :=
  lib_bytes_IndexAny (gl_mem0 mx) (gl_mem6 mx) (gl_mem7 mx) (fun s b off c w hs hnc hb hm hmb k1 k2 HG hp=>Tryz.idx_crlf s b off c w mx hs hnc hb hm hmb (tabs_lists utf8_first utf8_accept (by kernel_rfl) (by kernel_rfl) k1 k2) HG hp) Tryz.idx_none s c r h
theorem ok_bytes_ContainsAny (mx:Int) (b:(List Int)) (chars:ByteArray) (r:Bool) (h:Sh.bytes_ContainsAny b chars=some r):FnG Tryz.prog (GL mx) 84 [.fl .shr 1 (map (int .u8) b), .v (.string chars)] (.v (.bool r)):=by
  unfold Sh.bytes_ContainsAny at h
  refine yG 9 func84 fun g0 hn hio => ?_
  refine yyy hn 1 [0,1,9] ?_
  refine ht_seq ?_
  obtain ⟨v1, hv1, h⟩:=zn h
  refine yx hn 2 ?_
  refine ys 2 ⟨lg call105 (ok_bytes_IndexAny _ _ _ _ hv1) 9⟩ ?_
  refine yee [9,4] ?_
  refine ht_ret ?_
  refine pt_pick [1] (by kernel_rfl) (es':=[(_,_)]) rfl ?_
  obtain rfl:=zi h
  exact pt_ret hio rfl (.tmp _ _ .nil) rfl rfl
theorem ok_dots_Check (mx:Int) (b:(List Int)) (r:Int) (h:Sh.dots_Check b=some r):FnG Tryz.prog (GL mx) 65 [.fl .shr 1 (map (int .u8) b)] (.v (.int .i64 r)):=by
  unfold Sh.dots_Check at h
  refine yG 19 func65 fun g0 hn hio => ?_
  refine yxx hn 0 ?_
  refine yS (.box 29 [vi 0]) 0 ⟨oA (op_alloc _ _ zr29)⟩ ?_
  refine yee [0,19,2] ?_
  refine yxx hn 0 ?_
  refine yS (.box 3 [vi 0]) 1 ⟨oA (op_alloc _ _ zr3)⟩ ?_
  refine yee [0,19,2,3] ?_
  refine ht_seq ?_
  refine ht_seq ?_
  obtain ⟨v1, hv1, h⟩:=zn h
  refine yx hn 1 ?_
  refine yk [] [5] ?_
  refine yt (6,.cloB 89 [.box 25 [fb v1]]) 0 ⟨op_callS _ _ 69 _ _ rfl call69 rfl rfl (ok_dots_lines b _ hv1) rfl⟩ ?_
  refine yee [0,19,2,3,6] ?_
  refine ht_block ?_
  refine ht_pick [4,0,1,2,3] (by kernel_rfl) (es':=[(6,.cloB 89 [.box 25 [fb v1]]),(0,fb b),(19,.glob (GL mx)),(2,.box 29 [vi 0]),(3,.box 3 [vi 0])]) rfl ?_
  refine ht_rangeF h 89 6 7 20 _ [0, 19, 2, 3] call89 (fun (s8:Int)=>[(0, fb b), (19, .glob (GL mx)), (2, .box 29 [.v (.int .i64 0)]), (3, .box 3 [.v (.int .i64 s8)])]) (fun (s10:Int)=>[(0, fb b), (19, .glob (GL mx)), (2, .box 29 [.v (.int .i64 5)]), (3, .box 3 [.v (.int .i64 s10)])]) (fun l J Y hY t t' h=>ok_dots_lines_1 mx l J Y hY v1 t t' h) hn rfl (fun _=>rfl) (fun _=>rfl) (fun _=>rfl) rfl rfl (fun _=>⟨rfl, rfl⟩) rfl (glIn_look 19 rfl) ?_ ?_ ?_
  ·rintro kk g0 hn hio x s8 u h
   refine ht_es (es':=[(7,fb x),(0,fb b),(19,.glob (GL mx)),(2,.box 29 [vi 0]),(3,.box 3 [vi s8]),(0,.v (kk.tm.getD 0 undef)),(19,.v (kk.tm.getD 19 undef)),(2,.v (kk.tm.getD 2 undef)),(3,.v (kk.tm.getD 3 undef)),(20,.inv kk.ready)]) rfl ?_
   refine yy hn 1 [0,19,2,3,20,4,0,19,2,3] ?_
   refine pt_pick [0,1,2,3,5,6,7,8,9,4] (by kernel_rfl) (es':=[(0,fb b),(19,.glob (GL mx)),(2,.box 29 [vi 0]),(3,.box 3 [vi s8]),(4,fb x),(0,.v (kk.tm.getD 0 undef)),(19,.v (kk.tm.getD 19 undef)),(2,.v (kk.tm.getD 2 undef)),(3,.v (kk.tm.getD 3 undef)),(20,.inv kk.ready)]) rfl ?_
   refine pt_begin (es:=[(0,fb b),(19,.glob (GL mx)),(2,.box 29 [vi 0]),(3,.box 3 [vi s8]),(4,fb x),(0,.v (kk.tm.getD 0 undef)),(19,.v (kk.tm.getD 19 undef)),(2,.v (kk.tm.getD 2 undef)),(3,.v (kk.tm.getD 3 undef))]) 20 rfl ?_
   refine ht_block ?_
   refine ht_seq ?_
   refine ht_seq ?_
   obtain ⟨v2, hv2, h⟩:=zn h
   refine yx hn 1 ?_
   refine ys 0 ⟨lg call84 (ok_bytes_ContainsAny _ _ _ _ hv2) 19⟩ ?_
   refine yee [0,19,2,3,4,20,9,0,19,2,3] ?_
   refine ht_cond _ rfl (fun hb11 => ?_) (fun hb11 => ?_)
   ·have h:=cond_t hb11 h
    refine yyy hn 1 [0,19,2,3,20,0,19,2,3] ?_
    refine ht_ret ?_
    refine pt_r_then ?_
    refine pt_r_in ?_
    refine pt_pick [0,1,2,3,5,6,7,8,4] (by kernel_rfl) (es':=[(_,_),(_,_),(_,_),(_,_),(_,_),(_,_),(_,_),(_,_),(_,_)]) rfl ?_
    obtain rfl:=zi h
    exact pt_rret 20 [0, 19, 2, 3] _ rfl rfl (by kernel_rfl)
   ·have h:=cond_f hb11 h
    refine ht_skip ?_
    refine pt_then ?_
    obtain ⟨v4, hv4, h⟩:=zn h
    obtain ⟨v5, hv5, h⟩:=zn h
    refine yx hn 3 ?_
    refine ys 0 ⟨lb hv4⟩ ?_
    refine ys 1 ⟨lb hv5⟩ ?_
    refine ye [0,19,2,3,20,0,19,2,3] ?_
    refine pt_inb ?_
    refine pt_pick [0,1,2,3,5,6,7,8,4] (by kernel_rfl) (es':=[(_,_),(_,_),(_,_),(_,_),(_,_),(_,_),(_,_),(_,_),(_,_)]) rfl ?_
    obtain rfl:=zi h
    exact pt_rnext 20 [0, 19, 2, 3] _ rfl rfl (by kernel_rfl)
  ·rintro D s8 h
   refine pt_inb ?_
   refine pt_then (ht_seq ?_)
   refine yyy hn 4 [19,2,18] ?_
   refine ht_cond _ rfl (fun hb12 => ?_) (fun hb12 => ?_)
   ·have h:=cond_t hb12 h
    refine yyy hn 1 [19,2] ?_
    refine ht_ret ?_
    refine pt_pick [1] (by kernel_rfl) (es':=[(_,_)]) rfl ?_
    refine pt_r_then ?_
    obtain rfl:=zi h
    exact pt_ret hio rfl (.cell1 _ _ _ _ underlying29 rfl .nil) rfl rfl
   ·have h:=cond_f hb12 h
    refine ht_skip ?_
    refine pt_then ?_
    refine yyy hn 1 [19,2] ?_
    refine ht_ret ?_
    refine pt_pick [1] (by kernel_rfl) (es':=[(_,_)]) rfl ?_
    obtain rfl:=zi h
    exact pt_ret hio rfl (.cell1 _ _ _ _ underlying29 rfl .nil) rfl rfl
  ·rintro D s10 h
   refine pt_pick [2] (by kernel_rfl) (es':=[(_,_)]) rfl ?_
   refine pt_r_in ?_
   refine pt_r_then ?_
   obtain rfl:=zi h
   exact pt_ret hio rfl (.cell1 _ _ _ _ underlying29 rfl .nil) rfl rfl
theorem ok_bundle_validMail (mx:Int) (m:T_Mail) (r:Bool) (h:Sh.bundle_validMail m=some r):FnG Tryz.prog (GL mx) 42 [.agg [.v (.bool m.From.Null), .v (.string m.From.Local), .v (.string m.From.Domain), .fl .shr 3 (flatten (map T_Path.enc m.To)), .fl .shr 1 (map (int .u8) m.Body), .v (.bool m.Quiet), .v (.string m.Helo), .v (.int .i64 m.At)]] (.v (.bool r)):=by
  unfold Sh.bundle_validMail at h
  refine yG 17 func42 fun g0 hn hio => ?_
  refine yyy hn 2 [17,1] ?_
  refine ht_seq ?_
  refine ht_joinS h (fun (s3:Bool)=>[(17,.glob (GL mx)),(2,vb s3)]) ?_ ?_
  ·rintro s3 h
   refine pt_then (ht_ret ?_)
   refine pt_pick [1] (by kernel_rfl) (es':=[(_,_)]) rfl ?_
   obtain rfl:=zi h
   exact pt_ret hio rfl (.tmp _ _ .nil) rfl rfl
  ·intro u4 h hl5 hr6
   obtain ⟨v1, hv1, h⟩:=zn h
   refine cond_some h (fun hg1_2 h => ?_) (fun hg1_2 h => ?_)
   ·refine cond_some h (fun hg1_8 h => ?_) (fun hg1_8 h => ?_)
    ·obtain ⟨v2, hv2, h⟩:=zn h
     refine yx hn 1 ?_
     refine ys 1 ⟨lg call64 (ok_envelope_Valid _ _ _ hv1) 17⟩ ?_
     refine yd hg1_2 6 ?_
     refine yd hg1_8 2 ?_
     refine ys 3 ⟨lg call65 (ok_dots_Check _ _ _ hv2) 17⟩ ?_
     refine ye [17,2] ?_
     exact hl5 _ (zi h).symm
    ·refine yx hn 1 ?_
     refine ys 1 ⟨lg call64 (ok_envelope_Valid _ _ _ hv1) 17⟩ ?_
     refine yd hg1_2 6 ?_
     refine yd hg1_8 6 ?_
     refine ye [17,2] ?_
     exact hl5 _ (zi h).symm
   ·refine yx hn 1 ?_
    refine ys 1 ⟨lg call64 (ok_envelope_Valid _ _ _ hv1) 17⟩ ?_
    refine yd hg1_2 12 ?_
    refine ye [17,2] ?_
    exact hl5 _ (zi h).symm
theorem ok_bundle_Check (mx:Int) (b:T_Bundle) (r:Int) (h:Sh.bundle_Check b=some r):FnG Tryz.prog (GL mx) 19 [.agg [.v (.int .i64 b.Origin), .v (.int .i64 b.Number), .fr .shr true 8 (flatten (map T_Mail.ienc b.Mails))]] (.v (.int .i64 r)):=by
  unfold Sh.bundle_Check at h
  refine yG 58 func19 fun g0 hn hio => ?_
  refine yyy hn 2 [58,1] ?_
  refine ht_seq ?_
  refine ht_seq ?_
  refine ht_joinS h (fun (s1:Bool)=>[(58,.glob (GL mx)),(1,.box 24 [vi b.Origin,vi b.Number,.fr .shr true 8 (flatten (map T_Mail.ienc b.Mails))]),(22,vb s1)]) ?_ ?_
  ·rintro s1 h
   refine pt_then ?_
   refine ht_cond _ rfl (fun hb5 => ?_) (fun hb5 => ?_)
   ·have h:=cond_t hb5 h
    refine yyy hn 1 [58,2] ?_
    refine ht_ret ?_
    refine pt_pick [1] (by kernel_rfl) (es':=[(_,_)]) rfl ?_
    refine pt_r_then ?_
    obtain rfl:=zi h
    exact pt_ret hio rfl (.tmp _ _ .nil) rfl rfl
   ·have h:=cond_f hb5 h
    refine ht_skip ?_
    refine pt_then (ht_seq ?_)
    refine ht_seq ?_
    refine ht_joinS h (fun (s6:Bool)=>[(58,.glob (GL mx)),(1,.box 24 [vi b.Origin,vi b.Number,.fr .shr true 8 (flatten (map T_Mail.ienc b.Mails))]),(32,vb s6)]) ?_ ?_
    ·rintro s6 h
     refine pt_then ?_
     refine ht_cond _ rfl (fun hb10 => ?_) (fun hb10 => ?_)
     ·have h:=cond_t hb10 h
      refine yyy hn 1 [58,2] ?_
      refine ht_ret ?_
      refine pt_pick [1] (by kernel_rfl) (es':=[(_,_)]) rfl ?_
      refine pt_r_then ?_
      obtain rfl:=zi h
      exact pt_ret hio rfl (.tmp _ _ .nil) rfl rfl
     ·have h:=cond_f hb10 h
      refine ht_skip ?_
      refine pt_then (ht_seq ?_)
      refine yyy hn 4 [58,34,35,36] ?_
      refine ht_loopS h (fun (s28:Int)=>[(58,.glob (GL mx)),(34,.fr .shr true 8 (flatten (map T_Mail.ienc b.Mails))),(35,vi (b.Mails.length:Int)),(36,vi s28)]) (fun (():Unit)=>[(58,.glob (GL mx))]) ?_ ?_
      ·rintro ⟨⟩ h
       refine pt_then ?_
       refine yyy hn 1 [58,2] ?_
       refine ht_ret ?_
       refine pt_pick [1] (by kernel_rfl) (es':=[(_,_)]) rfl ?_
       obtain rfl:=zi h
       exact pt_ret hio rfl (.tmp _ _ .nil) rfl rfl
      ·rintro u35 hl36 hr37 s28 rr40 h ho38
       refine yyy hn 1 [58,34,35,36,37] ?_
       refine ht_seq ?_
       refine ht_cond _ rfl (fun hb41 => ?_) (fun hb41 => ?_)
       ·have h:=cond_t hb41 h
        refine ht_skip ?_
        refine pt_then (ht_seq ?_)
        refine ht_block ?_
        refine ht_seq ?_
        obtain ⟨v12, hv12, h⟩:=zn h
        obtain ⟨v13, hv13, h⟩:=zn h
        refine yx hn 0 ?_
        refine ys 0 ⟨lI hv12⟩ ?_
        refine yS (.agg (T_Mail.c v13 [])) 0 ⟨op_loadA_fr _ _ _ _ _ _ _ _ underlying46 rfl sz46 rfl rfl (gflat_get T_Mail.ilen hv13) (.cons (.v _) (.cons (.v _) (.cons (.v _) (.cons (.fl _ _ rfl) (.cons (.fl _ _ rfl) (.cons (.v _) (.cons (.v _) (.cons (.v _) (.nil))))))))) rfl (by decide)⟩ ?_
        refine yS (.box 46 [vb false,vs z0,vs z0,vz,vz,vb false,vs z0,vi 0]) 1 ⟨oA (op_alloc _ _ zr46)⟩ ?_
        refine yee [58,34,35,36,4] ?_
        refine ht_seq ?_
        refine ht_joinS h (fun (s42:Bool)=>[(58,.glob (GL mx)),(34,.fr .shr true 8 (flatten (map T_Mail.ienc b.Mails))),(35,vi (b.Mails.length:Int)),(36,vi s28),(56,vb s42)]) ?_ ?_
        ·rintro s42 h
         refine pt_then ?_
         refine ht_cond _ rfl (fun hb46 => ?_) (fun hb46 => ?_)
         ·have h:=cond_t hb46 h
          refine yyy hn 1 [58,2] ?_
          refine ht_ret ?_
          refine pt_pick [1] (by kernel_rfl) (es':=[(_,_)]) rfl ?_
          refine pt_r_in ?_
          refine pt_r_then ?_
          refine pt_r_then ?_
          refine pt_r_in ?_
          refine pt_r_then ?_
          have h:=hr37 _ (ho38 _ (zi h).symm).symm
          obtain rfl:=zi h
          exact pt_ret hio rfl (.tmp _ _ .nil) rfl rfl
         ·have h:=cond_f hb46 h
          refine ht_skip ?_
          refine pt_inb ?_
          refine pt_then ?_
          obtain ⟨v20, hv20, h⟩:=zn h
          refine yx hn 0 ?_
          refine ys 0 ⟨lb hv20⟩ ?_
          refine yw [36] 1 ?_
          refine ye [58,34,35,36] ?_
          exact pt_next _ (zi h).symm rfl
        ·intro u43 h hl44 hr45
         obtain ⟨v14, hv14, h⟩:=zn h
         refine cond_some h (fun hg8_3 h => ?_) (fun hg8_3 h => ?_)
         ·refine yx hn 1 ?_
          refine ys 2 ⟨lg call42 (ok_bundle_validMail _ _ _ hv14) 58⟩ ?_
          refine yd hg8_3 13 ?_
          refine ye [58,34,35,36,56] ?_
          exact hl44 _ (zi h).symm
         ·refine cond_some h (fun hg8_7 h => ?_) (fun hg8_7 h => ?_)
          ·refine yx hn 1 ?_
           refine ys 2 ⟨lg call42 (ok_bundle_validMail _ _ _ hv14) 58⟩ ?_
           refine yd hg8_3 4 ?_
           refine yd hg8_7 9 ?_
           refine ye [58,34,35,36,56] ?_
           exact hl44 _ (zi h).symm
          ·refine cond_some h (fun hg8_12 h => ?_) (fun hg8_12 h => ?_)
           ·refine yx hn 1 ?_
            refine ys 2 ⟨lg call42 (ok_bundle_validMail _ _ _ hv14) 58⟩ ?_
            refine yd hg8_3 4 ?_
            refine yd hg8_7 5 ?_
            refine yd hg8_12 4 ?_
            refine ye [58,34,35,36,56] ?_
            exact hl44 _ (zi h).symm
           ·refine yx hn 1 ?_
            refine ys 2 ⟨lg call42 (ok_bundle_validMail _ _ _ hv14) 58⟩ ?_
            refine yd hg8_3 4 ?_
            refine yd hg8_7 5 ?_
            refine yd hg8_12 4 ?_
            refine ye [58,34,35,36,56] ?_
            exact hl44 _ (zi h).symm
       ·have h:=cond_f hb41 h
        refine ht_exit ?_
        refine pt_x_then ?_
        refine pt_x_then ?_
        refine pt_x_in ?_
        refine pt_pick [0] (by kernel_rfl) (es':=[(_,_)]) rfl ?_
        exact hl36 _ (ho38 _ (zi h).symm).symm
    ·intro u7 h hl8 hr9
     refine cond_some h (fun hg3_4 h => ?_) (fun hg3_4 h => ?_)
     ·refine yx hn 5 ?_
      refine yd hg3_4 5 ?_
      refine ye [58,1,32] ?_
      exact hl8 _ (zi h).symm
     ·refine yx hn 5 ?_
      refine yd hg3_4 5 ?_
      refine ye [58,1,32] ?_
      exact hl8 _ (zi h).symm
  ·intro u2 h hl3 hr4
   refine cond_some h (fun hg1_3 h => ?_) (fun hg1_3 h => ?_)
   ·refine cond_some h (fun hg1_8 h => ?_) (fun hg1_8 h => ?_)
    ·refine yx hn 4 ?_
     refine yd hg1_3 5 ?_
     refine yd hg1_8 9 ?_
     refine ye [58,1,22] ?_
     exact hl3 _ (zi h).symm
    ·refine cond_some h (fun hg1_13 h => ?_) (fun hg1_13 h => ?_)
     ·refine yx hn 4 ?_
      refine yd hg1_3 5 ?_
      refine yd hg1_8 5 ?_
      refine yd hg1_13 4 ?_
      refine ye [58,1,22] ?_
      exact hl3 _ (zi h).symm
     ·refine yx hn 4 ?_
      refine yd hg1_3 5 ?_
      refine yd hg1_8 5 ?_
      refine yd hg1_13 4 ?_
      refine ye [58,1,22] ?_
      exact hl3 _ (zi h).symm
   ·refine cond_some h (fun hg1_13 h => ?_) (fun hg1_13 h => ?_)
    ·refine yx hn 4 ?_
     refine yd hg1_3 10 ?_
     refine yd hg1_13 4 ?_
     refine ye [58,1,22] ?_
     exact hl3 _ (zi h).symm
    ·refine yx hn 4 ?_
     refine yd hg1_3 10 ?_
     refine yd hg1_13 4 ?_
     refine ye [58,1,22] ?_
     exact hl3 _ (zi h).symm
theorem ok_path_Text (mx:Int) (p:T_Path) (r:(ByteArray×Int)) (h:Sh.path_Text p=some r):FnG Tryz.prog (GL mx) 50 [.agg [.v (.bool p.Null), .v (.string p.Local), .v (.string p.Domain)]] (.tup [.v (.string r.1), .v (.int .i64 r.2)]):=by
  unfold Sh.path_Text at h
  refine yG 20 func50 fun g0 hn hio => ?_
  refine yyy hn 3 [20,1] ?_
  refine ht_seq ?_
  refine ht_seq ?_
  obtain ⟨v1, hv1, h⟩:=zn h
  refine yx hn 1 ?_
  refine ys 1 ⟨lg call68 (ok_path_Check _ _ _ hv1) 20⟩ ?_
  refine yee [20,1,4] ?_
  refine yyy hn 2 [20,1,4,8] ?_
  refine ht_cond _ rfl (fun hb2 => ?_) (fun hb2 => ?_)
  ·have h:=cond_t hb2 h
   refine yyy hn 3 [20,2,3] ?_
   refine ht_ret ?_
   refine pt_pick [1,2] (by kernel_rfl) (es':=[(_,_),(_,_)]) rfl ?_
   refine pt_r_then ?_
   obtain rfl:=zi h
   exact pt_ret hio rfl (.tmp _ _ (.tmp _ _ .nil)) rfl rfl
  ·have h:=cond_f hb2 h
   refine ht_skip ?_
   refine pt_then (ht_seq ?_)
   refine yyy hn 2 [20,1,11] ?_
   refine ht_cond _ rfl (fun hb3 => ?_) (fun hb3 => ?_)
   ·have h:=cond_t hb3 h
    refine yyy hn 2 [20,2,3] ?_
    refine ht_ret ?_
    refine pt_pick [1,2] (by kernel_rfl) (es':=[(_,_),(_,_)]) rfl ?_
    refine pt_r_then ?_
    obtain rfl:=zi h
    exact pt_ret hio rfl (.tmp _ _ (.tmp _ _ .nil)) rfl rfl
   ·have h:=cond_f hb3 h
    refine ht_skip ?_
    refine pt_then (ht_seq ?_)
    obtain ⟨v4, hv4, h⟩:=zn h
    obtain ⟨v5, hv5, h⟩:=zn h
    obtain ⟨v6, hv6, h⟩:=zn h
    obtain ⟨v7, hv7, h⟩:=zn h
    refine yx hn 2 ?_
    refine ys 0 ⟨lB (cat_ok hv4)⟩ ?_
    refine ys 2 ⟨lB (cat_ok hv5)⟩ ?_
    refine ys 0 ⟨lB (cat_ok hv6)⟩ ?_
    refine ys 2 ⟨lB (cat_ok hv7)⟩ ?_
    refine yee [20,2,3] ?_
    refine ht_ret ?_
    refine pt_pick [1,2] (by kernel_rfl) (es':=[(_,_),(_,_)]) rfl ?_
    obtain rfl:=zi h
    exact pt_ret hio rfl (.tmp _ _ (.tmp _ _ .nil)) rfl rfl
theorem ok_bundle_commands_1_clo (mx:Int) (word:ByteArray) (p:T_Path) (cap:(List Int)) (r:(List Int)) (h:Sh.bundle_commands_1_clo word p cap=some r):FnPG Tryz.prog (GL mx) 49 [.v (.string word), .agg [.v (.bool p.Null), .v (.string p.Local), .v (.string p.Domain)], .box 25 [.fl (.own 5) 1 (map (int .u8) cap)]] [.v (.string word), .agg [.v (.bool p.Null), .v (.string p.Local), .v (.string p.Domain)], .box 25 [.fl (.own 5) 1 (map (int .u8) r)]] (.tup []):=by
  unfold Sh.bundle_commands_1_clo at h
  refine yPG 18 func49 fun args0 hargs0 g0 hn hio => ?_
  refine yyy hn 1 [0,1,2,18,4,0,1,2] ?_
  refine ht_seq ?_
  obtain ⟨v1, hv1, h⟩:=zn h
  refine yx hn 1 ?_
  refine ys 0 ⟨lg call50 (ok_path_Text _ _ _ hv1) 18⟩ ?_
  refine ym 4 ?_
  refine yee [0,1,2,18,5,0,1,2] ?_
  obtain ⟨v2, hv2, h⟩:=zn h
  obtain ⟨v3, hv3, h⟩:=zn h
  obtain ⟨v4, hv4, h⟩:=zn h
  refine yx hn 3 ?_
  refine ys 0 ⟨lB (cat_ok hv2)⟩ ?_
  refine ys 0 ⟨lB (cat_ok hv3)⟩ ?_
  refine yk [2] [12,16] ?_
  refine ytt (2,.box 25 [.any]) (17,.fl (.own 5) 1 (map (int .u8) v4)) 0 ⟨op_apps_cell _ _ _ _ _ _ el25 zr5 underlying9 rfl rfl (zl rfl) rfl rfl hv4 rfl (Nat.ne_of_beq_eq_false rfl) rfl rfl⟩ ?_
  refine yw [12] 0 ?_
  refine yk [17,2] [] ?_
  refine yt (2,.box 25 [.fl (.own 5) 1 (map (int .u8) v4)]) 0 ⟨op_store_take _ _ _ _ _ _ _ _ sz25 rfl rfl rfl (zl rfl) rfl rfl⟩ ?_
  refine ye [0,1,2,18,0,1,2] ?_
  refine pt_pick [0,1,2,4,5,6] (by kernel_rfl) (es':=[(_,_),(_,_),(_,_),(_,_),(_,_),(_,_)]) rfl ?_
  obtain rfl:=zi h
  exact pt_endP (es:=[]) (posts:=[.v (.string word), .agg [.v (.bool p.Null),.v (.string p.Local),.v (.string p.Domain)], .box 25 [.fl (.own 5) 1 (map (int .u8) v4)]]) hio rfl rfl .nil rfl rfl hargs0 rfl
theorem ok_bytes_Equal (a:(List Int)) (b:(List Int)) (r:Bool) (h:Sh.bytes_Equal a b=some r):FnOK Tryz.prog 37 [.fl .shr 1 (map (int .u8) a), .fl .shr 1 (map (int .u8) b)] (.v (.bool r)):=by
  unfold Sh.bytes_Equal at h
  refine yO 10 func37 fun g0 hn hio => ?_
  refine yyy hn 1 [0,1] ?_
  refine ht_seq ?_
  obtain ⟨v1, hv1, h⟩:=zn h
  obtain ⟨v2, hv2, h⟩:=zn h
  refine yx hn 1 ?_
  refine ys 1 ⟨lS hv1⟩ ?_
  refine ys 2 ⟨lS hv2⟩ ?_
  refine yee [4] ?_
  refine ht_ret ?_
  obtain rfl:=zi h
  exact pt_ret hio rfl (.tmp _ _ .nil) rfl rfl
theorem ok_bytes_HasPrefix (s:(List Int)) (prefix_:(List Int)) (r:Bool) (h:Sh.bytes_HasPrefix s prefix_=some r):FnOK Tryz.prog 70 [.fl .shr 1 (map (int .u8) s), .fl .shr 1 (map (int .u8) prefix_)] (.v (.bool r)):=by
  unfold Sh.bytes_HasPrefix at h
  refine yO 18 func70 fun g0 hn hio => ?_
  refine yyy hn 1 [0,1] ?_
  refine ht_seq ?_
  refine ht_joinS h (fun (s3:Bool)=>[(4,vb s3)]) ?_ ?_
  ·rintro s3 h
   refine pt_then (ht_ret ?_)
   obtain rfl:=zi h
   exact pt_ret hio rfl (.tmp _ _ .nil) rfl rfl
  ·intro u4 h hl5 hr6
   refine cond_some h (fun hg1_5 h => ?_) (fun hg1_5 h => ?_)
   ·obtain ⟨v1, hv1, h⟩:=zn h
    obtain ⟨v2, hv2, h⟩:=zn h
    refine yx hn 6 ?_
    refine yd hg1_5 3 ?_
    refine yS (fb v1) 1 ⟨op_sl _ _ _ 0 (prefix_.length:Int) _ underlying25 sz5 rfl rfl rfl ⟨_,rfl⟩ hv1⟩ ?_
    refine ys 2 ⟨lk call37 (ok_bytes_Equal _ _ _ hv2)⟩ ?_
    refine ye [4] ?_
    exact hl5 _ (zi h).symm
   ·refine yx hn 6 ?_
    refine yd hg1_5 8 ?_
    refine ye [4] ?_
    exact hl5 _ (zi h).symm
theorem ok_dots_Stuff (mx:Int) (b:(List Int)) (r:((List Int)×Int)) (h:Sh.dots_Stuff b=some r):FnG Tryz.prog (GL mx) 51 [.fl .shr 1 (map (int .u8) b)] (.tup [.fl (.own 5) 1 (map (int .u8) r.1), .v (.int .i64 r.2)]):=by
  unfold Sh.dots_Stuff at h
  refine yG 28 func51 fun g0 hn hio => ?_
  refine yyy hn 2 [0,28] ?_
  refine ht_seq ?_
  refine ht_seq ?_
  obtain ⟨v1, hv1, h⟩:=zn h
  refine yx hn 1 ?_
  refine ys 1 ⟨lg call65 (ok_dots_Check _ _ _ hv1) 28⟩ ?_
  refine yee [0,28,4] ?_
  refine yyy hn 2 [0,28,4,10] ?_
  refine ht_cond _ rfl (fun hb2 => ?_) (fun hb2 => ?_)
  ·have h:=cond_t hb2 h
   refine yyy hn 3 [28,2,3] ?_
   refine ht_ret ?_
   refine pt_pick [1,2] (by kernel_rfl) (es':=[(_,_),(_,_)]) rfl ?_
   refine pt_sub (fs:=[(2,.fl (.own 5) 1 (map (int .u8) [])),(3,vi v1)]) (.sub _ (sub_nil 5 1) rfl (.same _ .nil)) ?_
   refine pt_r_then ?_
   obtain rfl:=zi h
   exact pt_ret hio rfl (.tmp _ _ (.tmp _ _ .nil)) rfl rfl
  ·have h:=cond_f hb2 h
   refine ht_skip ?_
   refine pt_then ?_
   refine yxx hn 0 ?_
   refine yS (.box 25 [vz]) 0 ⟨oA (op_alloc _ _ zr25)⟩ ?_
   refine yee [0,28,5] ?_
   refine ht_seq ?_
   refine ht_seq ?_
   obtain ⟨v3, hv3, h⟩:=zn h
   refine yx hn 1 ?_
   refine yk [] [12] ?_
   refine yt (13,.cloB 89 [.box 25 [fb v3]]) 0 ⟨op_callS _ _ 69 _ _ rfl call69 rfl rfl (ok_dots_lines b _ hv3) rfl⟩ ?_
   refine yee [28,5,13] ?_
   refine ht_block ?_
   refine ht_pick [2,0,1] (by kernel_rfl) (es':=[(13,.cloB 89 [.box 25 [fb v3]]),(28,.glob (GL mx)),(5,.box 25 [vz])]) rfl ?_
   refine ht_sub (fs:=[(13,.cloB 89 [.box 25 [fb v3]]),(28,.glob (GL mx)),(5,.box 25 [.fl (.own 5) 1 (map (int .u8) [])])]) (.same _ (.same _ (.box _ _ (subs_cons (sub_nil 5 1) (subs_nil)) rfl .nil))) ?_
   refine ht_rangeF h 89 13 14 29 _ [28, 5] call89 (fun (s21:(List Int))=>[(28, .glob (GL mx)), (5, .box 25 [.fl (.own 5) 1 (map (int .u8) s21)])]) (fun (():Unit)=>[]) (fun l J Y hY t t' h=>ok_dots_lines_1 mx l J Y hY v3 t t' h) hn rfl (fun _=>rfl) (fun _=>rfl) (fun _=>rfl) rfl rfl (fun _=>⟨rfl, rfl⟩) rfl (glIn_look 28 rfl) ?_ ?_ ?_
   ·rintro kk g0 hn hio x s21 u h
    refine ht_es (es':=[(14,fb x),(28,.glob (GL mx)),(5,.box 25 [.fl (.own 5) 1 (map (int .u8) s21)]),(28,.v (kk.tm.getD 28 undef)),(5,.v (kk.tm.getD 5 undef)),(29,.inv kk.ready)]) rfl ?_
    refine yy hn 1 [28,5,29,6,28,5] ?_
    refine pt_pick [0,1,3,4,5,2] (by kernel_rfl) (es':=[(28,.glob (GL mx)),(5,.box 25 [.fl (.own 5) 1 (map (int .u8) s21)]),(6,fb x),(28,.v (kk.tm.getD 28 undef)),(5,.v (kk.tm.getD 5 undef)),(29,.inv kk.ready)]) rfl ?_
    refine pt_begin (es:=[(28,.glob (GL mx)),(5,.box 25 [.fl (.own 5) 1 (map (int .u8) s21)]),(6,fb x),(28,.v (kk.tm.getD 28 undef)),(5,.v (kk.tm.getD 5 undef))]) 29 rfl ?_
    refine ht_block ?_
    refine ht_seq ?_
    refine ht_joinS h (fun (s29:(List Int))=>[(28,.glob (GL mx)),(5,.box 25 [.fl (.own 5) 1 (map (int .u8) s29)]),(6,fb x),(29,.inv kk.busy),(28,.v (kk.tm.getD 28 undef)),(5,.v (kk.tm.getD 5 undef))]) ?_ ?_
    ·rintro s29 h
     refine pt_then (ht_seq ?_)
     obtain ⟨v12, hv12, h⟩:=zn h
     refine yx hn 2 ?_
     refine yk [5] [21,22] ?_
     refine ytt (5,.box 25 [.any]) (23,.fl (.own 5) 1 (map (int .u8) v12)) 0 ⟨op_app_cell _ _ _ _ _ _ el25 rfl rfl (zl rfl) rfl (map_len _) (map_len _) hv12 ((List.map_append).symm.trans (congrArg (map _) (app_eq hv12))) (Nat.ne_of_beq_eq_false rfl) rfl rfl⟩ ?_
     refine yw [21] 0 ?_
     refine yk [23,5] [] ?_
     refine yt (5,.box 25 [.fl (.own 5) 1 (map (int .u8) v12)]) 0 ⟨op_store_take _ _ _ _ _ _ _ _ sz25 rfl rfl rfl (zl rfl) rfl rfl⟩ ?_
     refine yee [28,5,29,28,5] ?_
     obtain ⟨v13, hv13, h⟩:=zn h
     refine yx hn 1 ?_
     refine yk [5] [24] ?_
     refine ytt (5,.box 25 [.any]) (25,.fl (.own 5) 1 (map (int .u8) v13)) 0 ⟨op_apps_cell _ _ _ _ _ _ el25 zr5 underlying9 rfl rfl (zl rfl) rfl rfl hv13 rfl (Nat.ne_of_beq_eq_false rfl) rfl rfl⟩ ?_
     refine yw [24] 0 ?_
     refine yk [25,5] [] ?_
     refine yt (5,.box 25 [.fl (.own 5) 1 (map (int .u8) v13)]) 0 ⟨op_store_take _ _ _ _ _ _ _ _ sz25 rfl rfl rfl (zl rfl) rfl rfl⟩ ?_
     refine ye [28,5,29,28,5] ?_
     refine pt_inb ?_
     refine pt_pick [0,1,3,4,2] (by kernel_rfl) (es':=[(_,_),(_,_),(_,_),(_,_),(_,_)]) rfl ?_
     obtain rfl:=zi h
     exact pt_rnext 29 [28, 5] _ rfl rfl (by kernel_rfl)
    ·intro u30 h hl31 hr32
     refine ht_seq ?_
     obtain ⟨v4, hv4, h⟩:=zn h
     refine yx hn 1 ?_
     refine yS (.fl (.own 5) 1 (map (int .u8) [46])) 0 ⟨op_buildSlice _ _ 1 (.int .u8 0) (map (int .u8) [46]) [(0,.int .u8 46)] underlying25 sz5 zr5 (fun _ V w o a hv hes=>by simp only [List.map_toArray,List.map_cons,List.map_nil]; try rfl) (litfill (by simp [Instr.fill,Value.cells]; rfl) (by simp [List.range,List.range.loop] <;> rfl)) (by simp [Value.oneCell']) rfl (by decide) (by decide) (by decide)⟩ ?_
     refine yk [16] [] ?_
     refine yt (17,.fl .ro 1 (map (int .u8) [46])) 0 ⟨op_conv_mark _ _ _ underlying25 underlying5 (by intro h; cases h)⟩ ?_
     refine ys 0 ⟨lk call70 (ok_bytes_HasPrefix _ _ _ hv4)⟩ ?_
     refine yee [28,5,6,29,18,28,5] ?_
     refine ht_cond _ rfl (fun hb33 => ?_) (fun hb33 => ?_)
     ·have h:=cond_t hb33 h
      obtain ⟨v6, hv6, h⟩:=zn h
      refine yx hn 1 ?_
      refine yk [5] [19] ?_
      refine ytt (5,.box 25 [.any]) (20,.fl (.own 5) 1 (map (int .u8) v6)) 0 ⟨op_apps_cell _ _ _ _ _ _ el25 zr5 underlying9 rfl rfl (zl rfl) rfl rfl hv6 rfl (Nat.ne_of_beq_eq_false rfl) rfl rfl⟩ ?_
      refine yw [19] 0 ?_
      refine yk [20,5] [] ?_
      refine yt (5,.box 25 [.fl (.own 5) 1 (map (int .u8) v6)]) 0 ⟨op_store_take _ _ _ _ _ _ _ _ sz25 rfl rfl rfl (zl rfl) rfl rfl⟩ ?_
      refine ye [28,5,6,29,28,5] ?_
      exact hl31 _ (zi h).symm
     ·have h:=cond_f hb33 h
      refine ht_skip ?_
      refine pt_pick [0,1,2,3,5,6] (by kernel_rfl) (es':=[(_,_),(_,_),(_,_),(_,_),(_,_),(_,_)]) rfl ?_
      exact hl31 _ (zi h).symm
   ·rintro D s21 h
    refine pt_inb ?_
    refine pt_then (ht_seq ?_)
    obtain ⟨v34, hv34, h⟩:=zn h
    refine yx hn 1 ?_
    refine yk [5] [26] ?_
    refine ytt (5,.box 25 [.any]) (27,.fl (.own 5) 1 (map (int .u8) v34)) 0 ⟨op_apps_cell _ _ _ _ _ _ el25 zr5 underlying9 rfl rfl (zl rfl) rfl rfl hv34 rfl (Nat.ne_of_beq_eq_false rfl) rfl rfl⟩ ?_
    refine ya 1 ?_
    refine yee [28,2,3] ?_
    refine ht_ret ?_
    refine pt_pick [1,2] (by kernel_rfl) (es':=[(_,_),(_,_)]) rfl ?_
    obtain rfl:=zi h
    exact pt_ret hio rfl (.tmp _ _ (.tmp _ _ .nil)) rfl rfl
   ·rintro D ⟨⟩ h
    cases h
theorem ok_bundle_commands (mx:Int) (mails:(List T_Mail)) (r:(List Int)) (h:Sh.bundle_commands mails=some r):FnG Tryz.prog (GL mx) 30 [.fr .shr true 8 (flatten (map T_Mail.ienc mails))] (.fl (.own 5) 1 (map (int .u8) r)):=by
  unfold Sh.bundle_commands at h
  refine yG 47 func30 fun g0 hn hio => ?_
  refine yyy hn 1 [0,47] ?_
  refine yxx hn 0 ?_
  refine yS (.box 25 [vz]) 0 ⟨oA (op_alloc _ _ zr25)⟩ ?_
  refine yee [0,47,3] ?_
  refine yxx hn 0 ?_
  refine yS (.clo 49 [3]) 1 ⟨op_makeFunc_name _ _ _ 3 (by decide)⟩ ?_
  refine yee [0,47,3,4] ?_
  refine ht_seq ?_
  refine yyy hn 3 [47,3,4,12,13,14] ?_
  refine ht_sub (fs:=[(47,.glob (GL mx)),(3,.box 25 [.fl (.own 5) 1 (map (int .u8) [])]),(4,.clo 49 [3]),(12,.fr .shr true 8 (flatten (map T_Mail.ienc mails))),(13,vi (mails.length:Int)),(14,vi 0)]) (.same _ (.box _ _ (subs_cons (sub_nil 5 1) (subs_nil)) rfl (.same _ (.same _ (.same _ (.same _ .nil)))))) ?_
  refine ht_loopS h (fun ((s46,s47):(List Int)×Int)=>[(47,.glob (GL mx)),(3,.box 25 [.fl (.own 5) 1 (map (int .u8) s46)]),(4,.clo 49 [3]),(12,.fr .shr true 8 (flatten (map T_Mail.ienc mails))),(13,vi (mails.length:Int)),(14,vi s47)]) (fun (s64:(List Int))=>[(47,.glob (GL mx)),(3,.box 25 [.fl (.own 5) 1 (map (int .u8) s64)])]) ?_ ?_
  ·rintro s64 h
   refine pt_then (ht_seq ?_)
   obtain ⟨v87, hv87, h⟩:=zn h
   refine yx hn 1 ?_
   refine yk [3] [45] ?_
   refine ytt (3,.box 25 [.any]) (46,.fl (.own 5) 1 (map (int .u8) v87)) 0 ⟨op_apps_cell _ _ _ _ _ _ el25 zr5 underlying9 rfl rfl (zl rfl) rfl rfl hv87 rfl (Nat.ne_of_beq_eq_false rfl) rfl rfl⟩ ?_
   refine ya 0 ?_
   refine yee [47,2] ?_
   refine ht_ret ?_
   refine pt_pick [1] (by kernel_rfl) (es':=[(_,_)]) rfl ?_
   obtain rfl:=zi h
   exact pt_ret hio rfl (.tmp _ _ .nil) rfl rfl
  ·rintro u65 hl66 hr67 ⟨s46, s47⟩ rr70 h ho68
   refine yyy hn 1 [47,3,4,12,13,14,15] ?_
   refine ht_seq ?_
   refine ht_cond _ rfl (fun hb71 => ?_) (fun hb71 => ?_)
   ·have h:=cond_t hb71 h
    refine ht_skip ?_
    refine pt_then (ht_seq ?_)
    refine ht_block ?_
    refine ht_seq ?_
    obtain ⟨v2, hv2, h⟩:=zn h
    obtain ⟨v3, hv3, h⟩:=zn h
    refine yx hn 0 ?_
    refine ys 0 ⟨lI hv2⟩ ?_
    refine yS (.agg (T_Mail.c v3 [])) 0 ⟨op_loadA_fr _ _ _ _ _ _ _ _ underlying46 rfl sz46 rfl rfl (gflat_get T_Mail.ilen hv3) (.cons (.v _) (.cons (.v _) (.cons (.v _) (.cons (.fl _ _ rfl) (.cons (.fl _ _ rfl) (.cons (.v _) (.cons (.v _) (.cons (.v _) (.nil))))))))) rfl (by decide)⟩ ?_
    refine yS (.box 46 [vb false,vs z0,vs z0,vz,vz,vb false,vs z0,vi 0]) 1 ⟨oA (op_alloc _ _ zr46)⟩ ?_
    refine yee [47,3,4,12,13,14,6] ?_
    refine ht_seq ?_
    obtain ⟨v4, hv4, h⟩:=zn h
    refine yx hn 3 ?_
    refine yk [3] [18,20,47] ?_
    refine ytt (3,.box 25 [.fl (.own 5) 1 (map (int .u8) v4)]) (21,.tup []) 0 ⟨op_callLG _ _ _ 21 18 3 47 49 [_,.tmp 20] _ _ _ _ rfl call49 rfl rfl rfl (fun _ h=>h) (ok_bundle_commands_1_clo mx (⟨#[77,65,73,76,32,70,82,79,77,58]⟩:ByteArray) (T_Path.mk v3.From.Null v3.From.Local v3.From.Domain) s46 _ hv4) rfl rfl rfl rfl rfl rfl rfl rfl⟩ ?_
    refine yee [47,3,4,12,13,14,6] ?_
    refine ht_seq ?_
    refine yyy hn 4 [47,3,4,12,13,14,6,23,24,25] ?_
    refine ht_loopS h (fun ((s76,s77):(List Int)×Int)=>[(47,.glob (GL mx)),(3,.box 25 [.fl (.own 5) 1 (map (int .u8) s76)]),(4,.clo 49 [3]),(12,.fr .shr true 8 (flatten (map T_Mail.ienc mails))),(13,vi (mails.length:Int)),(14,vi s47),(6,.box 46 (T_Mail.c v3 [])),(23,.fl .shr 3 (flatten (map T_Path.enc v3.To))),(24,vi (v3.To.length:Int)),(25,vi s77)]) (fun (s79:(List Int))=>[(47,.glob (GL mx)),(3,.box 25 [.fl (.own 5) 1 (map (int .u8) s79)]),(4,.clo 49 [3]),(12,.fr .shr true 8 (flatten (map T_Mail.ienc mails))),(13,vi (mails.length:Int)),(14,vi s47),(6,.box 46 (T_Mail.c v3 []))]) ?_ ?_
    ·rintro s79 h
     refine pt_then (ht_seq ?_)
     obtain ⟨v24, hv24, h⟩:=zn h
     refine yx hn 1 ?_
     refine yk [3] [33] ?_
     refine ytt (3,.box 25 [.any]) (34,.fl (.own 5) 1 (map (int .u8) v24)) 0 ⟨op_apps_cell _ _ _ _ _ _ el25 zr5 underlying9 rfl rfl (zl rfl) rfl rfl hv24 rfl (Nat.ne_of_beq_eq_false rfl) rfl rfl⟩ ?_
     refine yw [33] 0 ?_
     refine yk [34,3] [] ?_
     refine yt (3,.box 25 [.fl (.own 5) 1 (map (int .u8) v24)]) 0 ⟨op_store_take _ _ _ _ _ _ _ _ sz25 rfl rfl rfl (zl rfl) rfl rfl⟩ ?_
     refine yee [47,3,4,12,13,14,6] ?_
     refine ht_seq ?_
     obtain ⟨v25, hv25, h⟩:=zn h
     refine yx hn 2 ?_
     refine ys 0 ⟨lg call51 (ok_dots_Stuff _ _ _ hv25) 47⟩ ?_
     refine ym 0 ?_
     refine yx_ 1 ?_
     refine ya 1 ?_
     refine yee [47,3,4,12,13,14,9] ?_
     obtain ⟨v26, hv26, h⟩:=zn h
     refine yx hn 1 ?_
     refine ym 0 ?_
     refine yk [3] [41,42] ?_
     refine ytt (3,.box 25 [.any]) (43,.fl (.own 5) 1 (map (int .u8) v26)) 0 ⟨op_app_cell _ _ _ _ _ _ el25 rfl rfl (zl rfl) rfl (map_len _) (map_len _) hv26 ((List.map_append).symm.trans (congrArg (map _) (app_eq hv26))) (Nat.ne_of_beq_eq_false rfl) rfl rfl⟩ ?_
     refine yw [41] 0 ?_
     refine yk [43,3] [] ?_
     refine yt (3,.box 25 [.fl (.own 5) 1 (map (int .u8) v26)]) 0 ⟨op_store_take _ _ _ _ _ _ _ _ sz25 rfl rfl rfl (zl rfl) rfl rfl⟩ ?_
     refine ye [47,3,4,12,13,14] ?_
     refine pt_inb ?_
     refine pt_then ?_
     obtain ⟨v27, hv27, h⟩:=zn h
     refine yx hn 0 ?_
     refine ys 0 ⟨lb hv27⟩ ?_
     refine yw [14] 1 ?_
     refine ye [47,3,4,12,13,14] ?_
     exact pt_next _ (zi h).symm rfl
    ·rintro u80 hl81 hr82 ⟨s76, s77⟩ rr85 h ho83
     refine yyy hn 1 [47,3,4,12,13,14,6,23,24,25,26] ?_
     refine ht_seq ?_
     refine ht_cond _ rfl (fun hb86 => ?_) (fun hb86 => ?_)
     ·have h:=cond_t hb86 h
      refine ht_skip ?_
      refine pt_then (ht_seq ?_)
      refine ht_block ?_
      refine ht_seq ?_
      obtain ⟨v6, hv6, h⟩:=zn h
      obtain ⟨v7, hv7, h⟩:=zn h
      refine yx hn 0 ?_
      refine ys 0 ⟨lj hv6⟩ ?_
      refine yS (.agg [vb v7.Null,vs v7.Local,vs v7.Domain]) 0 ⟨op_load_eA _ _ _ _ _ _ _ underlying43 rfl sz43 rfl rfl (flat_get T_Path.len hv7) rfl (by decide)⟩ ?_
      refine yS (.box 43 [vb false,vs z0,vs z0]) 1 ⟨oA (op_alloc _ _ zr43)⟩ ?_
      refine yee [47,3,4,12,13,14,6,23,24,25,8] ?_
      obtain ⟨v8, hv8, h⟩:=zn h
      refine yx hn 2 ?_
      refine yk [3] [29,30,47] ?_
      refine ytt (3,.box 25 [.fl (.own 5) 1 (map (int .u8) v8)]) (31,.tup []) 0 ⟨op_callLG _ _ _ 31 29 3 47 49 [_,.tmp 30] _ _ _ _ rfl call49 rfl rfl rfl (fun _ h=>h) (ok_bundle_commands_1_clo mx (⟨#[82,67,80,84,32,84,79,58]⟩:ByteArray) v7 s76 _ hv8) rfl rfl rfl rfl rfl rfl rfl rfl⟩ ?_
      refine ye [47,3,4,12,13,14,6,23,24,25] ?_
      refine pt_inb ?_
      refine pt_then ?_
      obtain ⟨v9, hv9, h⟩:=zn h
      refine yx hn 0 ?_
      refine ys 0 ⟨lb hv9⟩ ?_
      refine yw [25] 1 ?_
      refine ye [47,3,4,12,13,14,6,23,24,25] ?_
      exact pt_next _ (zi h).symm rfl
     ·have h:=cond_f hb86 h
      refine ht_exit ?_
      refine pt_x_then ?_
      refine pt_x_then ?_
      refine pt_x_in ?_
      refine pt_pick [0,1,2,3,4,5,6] (by kernel_rfl) (es':=[(_,_),(_,_),(_,_),(_,_),(_,_),(_,_),(_,_)]) rfl ?_
      exact hl81 _ (ho83 _ (zi h).symm).symm
   ·have h:=cond_f hb71 h
    refine ht_exit ?_
    refine pt_x_then ?_
    refine pt_x_then ?_
    refine pt_x_in ?_
    refine pt_pick [0,1] (by kernel_rfl) (es':=[(_,_),(_,_)]) rfl ?_
    exact hl66 _ (ho68 _ (zi h).symm).symm
theorem ok_sums_table (divisor:Int) (r:(List Int)) (h:Sh.sums_table divisor=some r):FnOK Tryz.prog 71 [.v (.int .u32 divisor)] (.v (.agg (map (int .u32) r).toArray)):=by
  unfold Sh.sums_table at h
  refine yO 29 func71 fun g0 hn hio => ?_
  refine yxx hn 0 ?_
  refine yS (.arr 109 (map (int .u32) ((List.replicate 16 (0:Int))))) 0 ⟨oA (op_alloc_arr _ za109)⟩ ?_
  refine yee [0,2] ?_
  refine yxx hn 0 ?_
  refine yS (.arr 109 (map (int .u32) ((List.replicate 16 (0:Int))))) 0 ⟨oA (op_alloc_arr _ za109)⟩ ?_
  refine yee [0,2,3] ?_
  refine ht_seq ?_
  refine yyy hn 1 [0,2,3,7] ?_
  refine ht_loopS h (fun ((s91,s92):(List Int)×Int)=>[(0,.v (.int .u32 divisor)),(2,.arr 109 (map (int .u32) ((List.replicate 16 (0:Int))))),(3,.arr 109 (map (int .u32) s91)),(7,vi s92)]) (fun (s133:(List Int))=>[(2,.arr 109 (map (int .u32) ((List.replicate 16 (0:Int))))),(3,.arr 109 (map (int .u32) s133))]) ?_ ?_
  ·rintro s133 h
   refine pt_then (ht_seq ?_)
   obtain ⟨v180, hv180, h⟩:=zn h
   obtain ⟨v181, hv181, h⟩:=zn h
   obtain ⟨v182, hv182, h⟩:=zn h
   refine yx hn 0 ?_
   refine yS (.v (.agg (map (int .u32) s133).toArray)) 0 ⟨op_loadA_arr _ _ _ _ underlying109 rfl (sz109.trans (congrArg some (ln_len hv180))) rfl rfl⟩ ?_
   refine yk [2] [28] ?_
   refine yt (2,.arr 109 (map (int .u32) s133)) 0 ⟨op_storeA_arr _ _ _ _ (sz109.trans (congrArg some (ln_len hv182))) rfl rfl (ln_ones (fun _=>rfl) _) ((ln_len (f:=int .u32) hv181).symm.trans (ln_len (f:=int .u32) hv182))⟩ ?_
   refine yee [2] ?_
   refine ht_ret ?_
   obtain ⟨v183, hv183, h⟩:=zn h
   obtain rfl:=zi h
   exact pt_ret hio rfl (.cellR _ _ _ _ underlying109 rfl (sz109.trans (congrArg some (ln_len hv183))) .nil) rfl rfl
  ·rintro u134 hl135 hr136 ⟨s91, s92⟩ rr139 h ho137
   refine yyy hn 1 [0,2,3,7,8] ?_
   refine ht_seq ?_
   refine ht_cond _ rfl (fun hb140 => ?_) (fun hb140 => ?_)
   ·have h:=cond_t hb140 h
    refine ht_skip ?_
    refine pt_then (ht_seq ?_)
    refine ht_block ?_
    refine yyy hn 2 [0,2,3,7,4] ?_
    refine ht_seq ?_
    obtain ⟨v2, hv2, h⟩:=zn h
    refine yx hn 1 ?_
    refine ys 1 ⟨lv hv2⟩ ?_
    refine yee [0,2,3,7,4,5] ?_
    refine ht_seq ?_
    refine yyy hn 1 [0,2,3,7,4,5,12] ?_
    refine ht_loopS h (fun ((s157,s158):Int×Int)=>[(0,.v (.int .u32 divisor)),(2,.arr 109 (map (int .u32) ((List.replicate 16 (0:Int))))),(3,.arr 109 (map (int .u32) s91)),(7,vi s92),(4,vi s92),(5,.v (.int .u32 s157)),(12,vi s158)]) (fun (s166:Int)=>[(0,.v (.int .u32 divisor)),(2,.arr 109 (map (int .u32) ((List.replicate 16 (0:Int))))),(3,.arr 109 (map (int .u32) s91)),(7,vi s92),(4,vi s92),(5,.v (.int .u32 s166))]) ?_ ?_
    ·rintro s166 h
     refine pt_then ?_
     obtain ⟨v46, hv46, h⟩:=zn h
     obtain ⟨v47, hv47, h⟩:=zn h
     refine yx hn 2 ?_
     refine yS (.ptr 3 v46) 0 ⟨op_ix_arr _ _ _ _ 16 3 _ underlying109 sz86 rfl rfl (ix_ok hv46).1 (ix_ok hv46).2 (by decide)⟩ ?_
     refine yk [3] [26,25] ?_
     refine yt (3,.arr 109 (map (int .u32) v47)) 0 ⟨op_store_arr _ _ _ _ _ _ sz86 rfl rfl rfl rfl (set_lt hv47) (set_eq (f:=int .u32) hv47)⟩ ?_
     refine ye [0,2,3,7] ?_
     refine pt_inb ?_
     refine pt_then ?_
     obtain ⟨v48, hv48, h⟩:=zn h
     refine yx hn 0 ?_
     refine ys 0 ⟨lb hv48⟩ ?_
     refine yw [7] 1 ?_
     refine ye [0,2,3,7] ?_
     exact pt_next _ (zi h).symm rfl
    ·rintro u167 hl168 hr169 ⟨s157, s158⟩ rr172 h ho170
     refine yyy hn 1 [0,2,3,7,4,5,12,13] ?_
     refine ht_seq ?_
     refine ht_cond _ rfl (fun hb173 => ?_) (fun hb173 => ?_)
     ·have h:=cond_t hb173 h
      refine ht_skip ?_
      refine pt_then (ht_seq ?_)
      refine ht_joinS h (fun (s175:Int)=>[(0,.v (.int .u32 divisor)),(2,.arr 109 (map (int .u32) ((List.replicate 16 (0:Int))))),(3,.arr 109 (map (int .u32) s91)),(7,vi s92),(4,vi s92),(12,vi s158),(5,.v (.int .u32 s175))]) ?_ ?_
      ·rintro s175 h
       refine pt_then ?_
       obtain ⟨v13, hv13, h⟩:=zn h
       refine yx hn 0 ?_
       refine ys 0 ⟨lb hv13⟩ ?_
       refine yw [12] 1 ?_
       refine ye [0,2,3,7,4,5,12] ?_
       exact pt_next _ (zi h).symm rfl
      ·intro u176 h hl177 hr178
       refine ht_block ?_
       refine ht_seq ?_
       obtain ⟨v4, hv4, h⟩:=zn h
       refine yx hn 1 ?_
       refine ys 1 ⟨lb hv4⟩ ?_
       refine yee [0,2,3,7,4,5,12,6] ?_
       refine ht_seq ?_
       obtain ⟨v5, hv5, h⟩:=zn h
       refine yx hn 1 ?_
       refine ys 0 ⟨lB (shr_ok hv5)⟩ ?_
       refine yw [5] 1 ?_
       refine yee [0,2,3,7,4,12,6,5] ?_
       refine yyy hn 2 [0,2,3,7,4,12,5,19] ?_
       refine ht_cond _ rfl (fun hb179 => ?_) (fun hb179 => ?_)
       ·have h:=cond_t hb179 h
        obtain ⟨v7, hv7, h⟩:=zn h
        refine yx hn 2 ?_
        refine ys 0 ⟨lb hv7⟩ ?_
        refine yw [5] 1 ?_
        refine ye [0,2,3,7,4,12,5] ?_
        refine pt_inb ?_
        exact hl177 _ (zi h).symm
       ·have h:=cond_f hb179 h
        refine ht_skip ?_
        refine pt_inb ?_
        refine pt_pick [0,1,2,3,4,5,6] (by kernel_rfl) (es':=[(_,_),(_,_),(_,_),(_,_),(_,_),(_,_),(_,_)]) rfl ?_
        exact hl177 _ (zi h).symm
     ·have h:=cond_f hb173 h
      refine ht_exit ?_
      refine pt_x_then ?_
      refine pt_x_then ?_
      refine pt_x_in ?_
      refine pt_pick [0,1,2,3,4,5] (by kernel_rfl) (es':=[(_,_),(_,_),(_,_),(_,_),(_,_),(_,_)]) rfl ?_
      exact hl168 _ (ho170 _ (zi h).symm).symm
   ·have h:=cond_f hb140 h
    refine ht_exit ?_
    refine pt_x_then ?_
    refine pt_x_then ?_
    refine pt_x_in ?_
    refine pt_pick [1,2] (by kernel_rfl) (es':=[(_,_),(_,_)]) rfl ?_
    exact hl135 _ (ho137 _ (zi h).symm).symm
theorem ok_sums_sum (b:(List Int)) (width:Int) (divisor:Int) (r:Int) (h:Sh.sums_sum b width divisor=some r):FnOK Tryz.prog 52 [.fl .shr 1 (map (int .u8) b), .v (.int .i64 width), .v (.int .u32 divisor)] (.v (.int .i64 r)):=by
  unfold Sh.sums_sum at h
  refine yO 47 func52 fun g0 hn hio => ?_
  refine yyy hn 1 [0,1,2] ?_
  refine ht_seq ?_
  obtain ⟨v1, hv1, h⟩:=zn h
  obtain ⟨v2, hv2, h⟩:=zn h
  obtain ⟨v3, hv3, h⟩:=zn h
  refine yx hn 1 ?_
  refine ys 0 ⟨lk call71 (ok_sums_table _ _ hv1)⟩ ?_
  refine yS (.arr 109 (map (int .u32) ((List.replicate 16 (0:Int))))) 0 ⟨oA (op_alloc_arr _ za109)⟩ ?_
  refine yk [7] [13] ?_
  refine yt (7,.arr 109 (map (int .u32) v1)) 0 ⟨op_storeA_arr _ _ _ _ (sz109.trans (congrArg some (ln_len hv3))) rfl rfl (ln_ones (fun _=>rfl) _) ((ln_len (f:=int .u32) hv2).symm.trans (ln_len (f:=int .u32) hv3))⟩ ?_
  refine yee [0,1,7] ?_
  refine ht_seq ?_
  obtain ⟨v4, hv4, h⟩:=zn h
  obtain ⟨v5, hv5, h⟩:=zn h
  refine yx hn 1 ?_
  refine ys 0 ⟨lB (shl_ok hv4)⟩ ?_
  refine ys 1 ⟨lb hv5⟩ ?_
  refine yee [0,7,8] ?_
  refine yyy hn 2 [0,7,8,9] ?_
  refine ht_seq ?_
  refine yyy hn 3 [7,8,9,18,19,20] ?_
  refine ht_loopS h (fun ((s25,s26):Int×Int)=>[(7,.arr 109 (map (int .u32) v1)),(8,.v (.int .u32 v5)),(9,.v (.int .u32 s25)),(18,fb b),(19,vi (b.length:Int)),(20,vi s26)]) (fun (s28:Int)=>[(8,.v (.int .u32 v5)),(9,.v (.int .u32 s28))]) ?_ ?_
  ·rintro s28 h
   refine pt_then (ht_seq ?_)
   obtain ⟨v36, hv36, h⟩:=zn h
   obtain ⟨v37, hv37, h⟩:=zn h
   refine yx hn 2 ?_
   refine ys 0 ⟨lb hv36⟩ ?_
   refine ys 1 ⟨lv hv37⟩ ?_
   refine yee [6] ?_
   refine ht_ret ?_
   obtain rfl:=zi h
   exact pt_ret hio rfl (.tmp _ _ .nil) rfl rfl
  ·rintro u29 hl30 hr31 ⟨s25, s26⟩ rr34 h ho32
   refine yyy hn 1 [7,8,9,18,19,20,21] ?_
   refine ht_seq ?_
   refine ht_cond _ rfl (fun hb35 => ?_) (fun hb35 => ?_)
   ·have h:=cond_t hb35 h
    refine ht_skip ?_
    refine pt_then (ht_seq ?_)
    refine ht_block ?_
    refine ht_seq ?_
    obtain ⟨v7, hv7, h⟩:=zn h
    obtain ⟨v8, hv8, h⟩:=zn h
    refine yx hn 0 ?_
    refine ys 0 ⟨li hv7⟩ ?_
    refine ys 1 ⟨ll hv8⟩ ?_
    refine yee [7,8,9,18,19,20,11] ?_
    refine ht_seq ?_
    obtain ⟨v9, hv9, h⟩:=zn h
    obtain ⟨v10, hv10, h⟩:=zn h
    refine yx hn 2 ?_
    refine ys 0 ⟨lv hv9⟩ ?_
    refine ys 0 ⟨lb hv10⟩ ?_
    refine yw [9] 1 ?_
    refine yee [7,8,18,19,20,9] ?_
    refine ht_seq ?_
    obtain ⟨v11, hv11, h⟩:=zn h
    obtain ⟨v12, hv12, h⟩:=zn h
    obtain ⟨v13, hv13, h⟩:=zn h
    obtain ⟨v14, hv14, h⟩:=zn h
    obtain ⟨v15, hv15, h⟩:=zn h
    refine yx hn 1 ?_
    refine ys 1 ⟨lB (shr_ok hv11)⟩ ?_
    refine ys 0 ⟨lB (rem_ok hv12)⟩ ?_
    refine yS (.ptr 7 v13) 0 ⟨op_ix_arr _ _ _ _ 16 7 _ underlying109 sz86 rfl rfl (ix_ok hv13).1 (ix_ok hv13).2 (by decide)⟩ ?_
    refine yS (.v (.int .u32 v14)) 0 ⟨op_load_arr _ _ _ _ _ _ underlying86 rfl rfl rfl (map_get1 hv14)⟩ ?_
    refine ys 0 ⟨lb hv15⟩ ?_
    refine yw [9] 1 ?_
    refine yee [7,8,18,19,20,9] ?_
    obtain ⟨v16, hv16, h⟩:=zn h
    obtain ⟨v17, hv17, h⟩:=zn h
    obtain ⟨v18, hv18, h⟩:=zn h
    obtain ⟨v19, hv19, h⟩:=zn h
    obtain ⟨v20, hv20, h⟩:=zn h
    refine yx hn 1 ?_
    refine ys 1 ⟨lB (shr_ok hv16)⟩ ?_
    refine ys 0 ⟨lB (rem_ok hv17)⟩ ?_
    refine yS (.ptr 7 v18) 0 ⟨op_ix_arr _ _ _ _ 16 7 _ underlying109 sz86 rfl rfl (ix_ok hv18).1 (ix_ok hv18).2 (by decide)⟩ ?_
    refine yS (.v (.int .u32 v19)) 0 ⟨op_load_arr _ _ _ _ _ _ underlying86 rfl rfl rfl (map_get1 hv19)⟩ ?_
    refine ys 0 ⟨lb hv20⟩ ?_
    refine yw [9] 1 ?_
    refine ye [7,8,18,19,20,9] ?_
    refine pt_inb ?_
    refine pt_then ?_
    obtain ⟨v21, hv21, h⟩:=zn h
    refine yx hn 0 ?_
    refine ys 0 ⟨lb hv21⟩ ?_
    refine yw [20] 1 ?_
    refine ye [7,8,18,19,9,20] ?_
    refine pt_pick [0,1,4,2,3,5] (by kernel_rfl) (es':=[(_,_),(_,_),(_,_),(_,_),(_,_),(_,_)]) rfl ?_
    exact pt_next _ (zi h).symm rfl
   ·have h:=cond_f hb35 h
    refine ht_exit ?_
    refine pt_x_then ?_
    refine pt_x_then ?_
    refine pt_x_in ?_
    refine pt_pick [1,2] (by kernel_rfl) (es':=[(_,_),(_,_)]) rfl ?_
    exact hl30 _ (ho32 _ (zi h).symm).symm
theorem ok_sums_Long (b:(List Int)) (r:Int) (h:Sh.sums_Long b=some r):FnOK Tryz.prog 31 [.fl .shr 1 (map (int .u8) b)] (.v (.int .i64 r)):=by
  unfold Sh.sums_Long at h
  refine yO 5 func31 fun g0 hn hio => ?_
  refine yyy hn 1 [0] ?_
  refine ht_seq ?_
  obtain ⟨v1, hv1, h⟩:=zn h
  refine yx hn 1 ?_
  refine ys 1 ⟨lk call52 (ok_sums_sum _ _ _ _ hv1)⟩ ?_
  refine yee [2] ?_
  refine ht_ret ?_
  obtain rfl:=zi h
  exact pt_ret hio rfl (.tmp _ _ .nil) rfl rfl
theorem ok_strconv_Itoa (mx:Int) (n:Int) (r:ByteArray) (h:Sh.strconv_Itoa n=some r):FnG Tryz.prog (GL mx) 32 [.v (.int .i64 n)] (.v (.string r)):=lib_strconv_Itoa (by kernel_rfl) (gl_mem1 mx) (by rfl) (fun n w h0 h1 ht=>Tryz.strconv_Itoa n h0 h1 w ht) n r h
theorem ok_bundle_Bytes (mx:Int) (b:T_Bundle) (r:((List Int)×Int)) (h:Sh.bundle_Bytes b=some r):FnG Tryz.prog (GL mx) 13 [.agg [.v (.int .i64 b.Origin), .v (.int .i64 b.Number), .fr .shr true 8 (flatten (map T_Mail.ienc b.Mails))]] (.tup [.mkr 5 (map (int .u8) r.1), .v (.int .i64 r.2)]):=by
  unfold Sh.bundle_Bytes at h
  refine yG 50 func13 fun g0 hn hio => ?_
  refine yyy hn 3 [50,1] ?_
  refine ht_seq ?_
  refine ht_seq ?_
  obtain ⟨v1, hv1, h⟩:=zn h
  refine yx hn 1 ?_
  refine ys 1 ⟨lg call19 (ok_bundle_Check _ _ _ hv1) 50⟩ ?_
  refine yee [50,1,4] ?_
  refine yyy hn 2 [50,1,4,13] ?_
  refine ht_cond _ rfl (fun hb46 => ?_) (fun hb46 => ?_)
  ·have h:=cond_t hb46 h
   refine yyy hn 3 [50,2,3] ?_
   refine ht_ret ?_
   refine pt_pick [1,2] (by kernel_rfl) (es':=[(_,_),(_,_)]) rfl ?_
   refine pt_sub (fs:=[(2,.mkr 5 (map (int .u8) [])),(3,vi v1)]) (.sub _ (sub_nil_mk 5) rfl (.same _ .nil)) ?_
   refine pt_r_then ?_
   obtain rfl:=zi h
   exact pt_ret hio rfl (.tmp _ _ (.tmp _ _ .nil)) rfl rfl
  ·have h:=cond_f hb46 h
   refine ht_skip ?_
   refine pt_then (ht_seq ?_)
   obtain ⟨v3, hv3, h⟩:=zn h
   refine yx hn 2 ?_
   refine ys 0 ⟨lg call30 (ok_bundle_commands _ _ _ hv3) 50⟩ ?_
   refine ya 0 ?_
   refine yee [50,1,5] ?_
   refine yyy hn 1 [50,1,5,6] ?_
   refine ht_seq ?_
   refine ht_seq ?_
   obtain ⟨v4, hv4, h⟩:=zn h
   refine wb [[1],[18,1],[1],[20,1],[1],[22,1],[23],[5],[25,5],[5]] ?_
   refine wN [27,5] ?_
   refine wo [] ⟨lk call31 (ok_sums_Long _ _ hv4)⟩ ?_
   refine wN [19,21,24,26,28] ?_
   refine wS (.fl (.own 3) 1 (map (int .i64) [b.Origin,b.Number,(b.Mails.length:Int),(v3.length:Int),v4])) [[29],[]] ⟨op_buildSlice _ _ 1 (.int .i64 0) (map (int .i64) [b.Origin,b.Number,(b.Mails.length:Int),(v3.length:Int),v4]) [(0,.int .i64 b.Origin),(1,.int .i64 b.Number),(2,.int .i64 (b.Mails.length:Int)),(3,.int .i64 (v3.length:Int)),(4,.int .i64 v4)] underlying61 sz3 zr3 (fun _ V w o a hv hes=>by have e0:=rd_v hv hes (x := .tmp 19) rfl; have e1:=rd_v hv hes (x := .tmp 21) rfl; have e2:=rd_v hv hes (x := .tmp 24) rfl; have e3:=rd_v hv hes (x := .tmp 26) rfl; have e4:=rd_v hv hes (x := .tmp 28) rfl; simp only [List.map_toArray,List.map_cons,List.map_nil,e0,e1,e2,e3,e4]; try rfl) (litfill (by simp [Instr.fill,Value.cells]; rfl) (by simp [List.range,List.range.loop] <;> rfl)) (by simp [Value.oneCell']) rfl (by decide) (by decide) (by decide)⟩ ?_
   refine wee hn [50,5,6,29,30,31] ?_
   refine ht_loopS h (fun ((s51,s52):ByteArray×Int)=>[(50,.glob (GL mx)),(5,.fl (.own 5) 1 (map (int .u8) v3)),(6,vs s51),(29,.fl (.own 3) 1 (map (int .i64) [b.Origin,b.Number,(b.Mails.length:Int),(v3.length:Int),v4])),(30,vi ([b.Origin,b.Number,(b.Mails.length:Int),(v3.length:Int),v4].length:Int)),(31,vi s52)]) (fun (s54:ByteArray)=>[(50,.glob (GL mx)),(5,.fl (.own 5) 1 (map (int .u8) v3)),(6,vs s54)]) ?_ ?_
   ·rintro s54 h
    refine pt_then (ht_seq ?_)
    obtain ⟨v26, hv26, h⟩:=zn h
    obtain ⟨v27, hv27, h⟩:=zn h
    obtain ⟨v44, hv44, h⟩:=zn h
    refine yx hn 1 ?_
    refine ys 0 ⟨lB (cat_ok hv26)⟩ ?_
    refine ys 0 ⟨lU hv27⟩ ?_
    refine ym 0 ?_
    refine yk [43] [44] ?_
    refine ytt (43,.any) (45,.mkr 5 (map (int .u8) v44)) 0 ⟨op_app_mk _ _ _ _ _ el25 rfl rfl rfl rfl hv44 rfl⟩ ?_
    refine ya 0 ?_
    refine yee [50,9] ?_
    refine ht_seq ?_
    refine yxx hn 1 ?_
    refine yS (vi (v44.length:Int)) 1 ⟨op_len_mk _ _ _ underlying25 rfl (List.length_map _)⟩ ?_
    refine yee [50,9,48] ?_
    refine ht_cond _ rfl (fun hb62 => ?_) (fun hb62 => ?_)
    ·have h:=cond_t hb62 h
     refine yyy hn 2 [50,2,3] ?_
     refine ht_ret ?_
     refine pt_pick [1,2] (by kernel_rfl) (es':=[(_,_),(_,_)]) rfl ?_
     refine pt_sub (fs:=[(2,.mkr 5 (map (int .u8) [])),(3,vi 2)]) (.sub _ (sub_nil_mk 5) rfl (.same _ .nil)) ?_
     refine pt_r_then ?_
     obtain rfl:=zi h
     exact pt_ret hio rfl (.tmp _ _ (.tmp _ _ .nil)) rfl rfl
    ·have h:=cond_f hb62 h
     refine ht_skip ?_
     refine pt_then ?_
     refine yxx hn 0 ?_
     refine ym 0 ?_
     refine ya 1 ?_
     refine yee [50,2,3] ?_
     refine ht_ret ?_
     refine pt_pick [1,2] (by kernel_rfl) (es':=[(_,_),(_,_)]) rfl ?_
     obtain rfl:=zi h
     exact pt_ret hio rfl (.tmp _ _ (.tmp _ _ .nil)) rfl rfl
   ·rintro u55 hl56 hr57 ⟨s51, s52⟩ rr60 h ho58
    refine yyy hn 1 [50,5,6,29,30,31,32] ?_
    refine ht_seq ?_
    refine ht_cond _ rfl (fun hb61 => ?_) (fun hb61 => ?_)
    ·have h:=cond_t hb61 h
     refine ht_skip ?_
     refine pt_then (ht_seq ?_)
     refine ht_block ?_
     refine ht_seq ?_
     obtain ⟨v6, hv6, h⟩:=zn h
     obtain ⟨v7, hv7, h⟩:=zn h
     refine yx hn 0 ?_
     refine ys 0 ⟨li hv6⟩ ?_
     refine ys 1 ⟨ll hv7⟩ ?_
     refine yee [50,5,6,29,30,31,8] ?_
     obtain ⟨v8, hv8, h⟩:=zn h
     obtain ⟨v9, hv9, h⟩:=zn h
     obtain ⟨v10, hv10, h⟩:=zn h
     refine yx hn 2 ?_
     refine ys 0 ⟨lg call32 (ok_strconv_Itoa _ _ _ hv8) 50⟩ ?_
     refine ys 0 ⟨lB (cat_ok hv9)⟩ ?_
     refine ys 0 ⟨lB (cat_ok hv10)⟩ ?_
     refine yw [6] 1 ?_
     refine ye [50,5,29,30,31,6] ?_
     refine pt_inb ?_
     refine pt_then ?_
     obtain ⟨v11, hv11, h⟩:=zn h
     refine yx hn 0 ?_
     refine ys 0 ⟨lb hv11⟩ ?_
     refine yw [31] 1 ?_
     refine ye [50,5,29,30,6,31] ?_
     refine pt_pick [0,1,4,2,3,5] (by kernel_rfl) (es':=[(_,_),(_,_),(_,_),(_,_),(_,_),(_,_)]) rfl ?_
     exact pt_next _ (zi h).symm rfl
    ·have h:=cond_f hb61 h
     refine ht_exit ?_
     refine pt_x_then ?_
     refine pt_x_then ?_
     refine pt_x_in ?_
     refine pt_pick [0,1,2] (by kernel_rfl) (es':=[(_,_),(_,_),(_,_)]) rfl ?_
     exact hl56 _ (ho58 _ (zi h).symm).symm
theorem ok_wherrykeep_Bytes (a:(List Int)) (b:(List Int)) (r:Bool) (h:Sh.wherrykeep_Bytes a b=some r):FnOK Tryz.prog 21 [.fl .shr 1 (map (int .u8) a), .fl .shr 1 (map (int .u8) b)] (.v (.bool r)):=by
  unfold Sh.wherrykeep_Bytes at h
  refine yO 26 func21 fun g0 hn hio => ?_
  refine yyy hn 1 [0,1] ?_
  refine ht_seq ?_
  refine yyy hn 5 [0,1,10] ?_
  refine ht_cond _ rfl (fun hb1 => ?_) (fun hb1 => ?_)
  ·have h:=cond_t hb1 h
   refine yyy hn 1 [4] ?_
   refine ht_ret ?_
   refine pt_r_then ?_
   obtain rfl:=zi h
   exact pt_ret hio rfl (.tmp _ _ .nil) rfl rfl
  ·have h:=cond_f hb1 h
   refine ht_skip ?_
   refine pt_then (ht_seq ?_)
   refine yyy hn 1 [0,1,5] ?_
   refine ht_loopS h (fun (s12:Int)=>[(0,fb a),(1,fb b),(5,vi s12)]) (fun (():Unit)=>[]) ?_ ?_
   ·rintro ⟨⟩ h
    refine pt_then ?_
    refine yyy hn 1 [4] ?_
    refine ht_ret ?_
    obtain rfl:=zi h
    exact pt_ret hio rfl (.tmp _ _ .nil) rfl rfl
   ·rintro u15 hl16 hr17 s12 rr20 h ho18
    refine ht_seq ?_
    refine yyy hn 4 [0,1,5,14] ?_
    refine ht_cond _ rfl (fun hb21 => ?_) (fun hb21 => ?_)
    ·have h:=cond_t hb21 h
     refine ht_skip ?_
     refine pt_then (ht_seq ?_)
     refine ht_block ?_
     refine ht_seq ?_
     obtain ⟨v3, hv3, h⟩:=zn h
     obtain ⟨v4, hv4, h⟩:=zn h
     obtain ⟨v5, hv5, h⟩:=zn h
     obtain ⟨v6, hv6, h⟩:=zn h
     refine wb [[0],[5]] ?_
     refine wN [17,18] ?_
     refine wo [] ⟨li hv3⟩ ?_
     refine wN [19,17] ?_
     refine wo [[1],[5]] ⟨ll hv4⟩ ?_
     refine wN [21,22] ?_
     refine wo [] ⟨li hv5⟩ ?_
     refine wN [23,21] ?_
     refine wo [[20,24]] ⟨ll hv6⟩ ?_
     refine wee hn [0,1,5,25] ?_
     refine ht_cond _ rfl (fun hb22 => ?_) (fun hb22 => ?_)
     ·have h:=cond_t hb22 h
      refine yyy hn 1 [4] ?_
      refine ht_ret ?_
      refine pt_r_in ?_
      refine pt_r_then ?_
      refine pt_r_then ?_
      refine pt_r_in ?_
      refine pt_r_then ?_
      have h:=hr17 _ (ho18 _ (zi h).symm).symm
      obtain rfl:=zi h
      exact pt_ret hio rfl (.tmp _ _ .nil) rfl rfl
     ·have h:=cond_f hb22 h
      refine ht_skip ?_
      refine pt_inb ?_
      refine pt_then ?_
      obtain ⟨v8, hv8, h⟩:=zn h
      refine yx hn 1 ?_
      refine ys 0 ⟨lb hv8⟩ ?_
      refine yw [5] 1 ?_
      refine ye [0,1,5] ?_
      exact pt_next _ (zi h).symm rfl
    ·have h:=cond_f hb21 h
     refine ht_exit ?_
     refine pt_x_then ?_
     refine pt_x_then ?_
     refine pt_x_in ?_
     refine pt_pick [] (by kernel_rfl) (es':=[]) rfl ?_
     exact hl16 _ (ho18 _ (zi h).symm).symm
theorem ok_strings_Count (s sub:ByteArray) (r:Int) (h:Sh.strings_Count s sub=some r):FnOK Tryz.prog 97 [.v (.string s), .v (.string sub)] (.v (.int .i64 r)):=lib_strings_Count Tryz.strings_Count_one s sub r h
end Go.Proofs.YtglabbpbianmnaaGreatDoor
