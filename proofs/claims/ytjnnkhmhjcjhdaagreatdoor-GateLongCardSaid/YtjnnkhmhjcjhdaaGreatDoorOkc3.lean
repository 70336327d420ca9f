/-
  The model's runs are what is told in Lean.
-/
import Derived.Test.YtjnnkhmhjcjhdaaGreatDoorProg
import Derived.KernelRfl
import Derived.Test.YtjnnkhmhjcjhdaaGreatDoorShelf
import Derived.Test.YtjnnkhmhjcjhdaaGreatDoorIdx
import Derived.Test.YtjnnkhmhjcjhdaaGreatDoorB3
import Derived.Test.YtjnnkhmhjcjhdaaGreatDoorC1
import Derived.Test.YtjnnkhmhjcjhdaaGreatDoorBC
import Derived.Test.YtjnnkhmhjcjhdaaGreatDoorOkc2
set_option linter.unusedVariables false
set_option linter.unusedSimpArgs false
set_option maxHeartbeats 1000000
namespace Go.Proofs.YtjnnkhmhjcjhdaaGreatDoor
open Go.Abs Go.Abs.Sh Tryz
open List (map flatten)
open Value (int)
theorem ok_path_dotted_of_path_atom (mx:Int×Nat×Value) (s:ByteArray) (r:Bool) (h:Sh.path_dotted_of_path_atom s=some r):FnG Tryz.prog (GL mx) 69 [.v (.string s), .v (.func (.func 213) #[] #[])] (.v (.bool r)):=by
  unfold Sh.path_dotted_of_path_atom at h
  refine yG 13 func69 fun g0 hn hio => ?_
  refine yxx hn 1 ?_
  refine yS (.box 4 [vb false]) 0 ⟨oA (op_alloc _ _ zr4)⟩ ?_
  refine yee [0,13,3,4] ?_
  refine ht_seq ?_
  refine ht_seq ?_
  obtain ⟨v1, hv1, h⟩:=zn h
  refine yx hn 1 ?_
  refine yk [] [6] ?_
  refine yt (7,.cloB 119 [.box 9 [vs v1.1],.box 9 [vs v1.2.1],.box 3 [vi v1.2.2]]) 0 ⟨op_callS _ _ 80 _ _ rfl call80 rfl rfl (ok_strings_SplitSeq s (⟨#[46]⟩:ByteArray) _ hv1) rfl⟩ ?_
  refine yee [13,3,4,7] ?_
  refine ht_block ?_
  refine ht_pick [3,0,1,2] (by kernel_rfl) (es':=[(7,.cloB 119 [.box 9 [vs v1.1],.box 9 [vs v1.2.1],.box 3 [vi v1.2.2]]),(13,.glob (GL mx)),(3,.box 65 [.v (.func (.func 213) #[] #[])]),(4,.box 4 [vb false])]) rfl ?_
  refine ht_rangeF h 119 7 8 14 _ [13, 3, 4] call119 (fun (():Unit)=>[(13, .glob (GL mx)), (3, .box 65 [.v (.func (.func 213) #[] #[])]), (4, .box 4 [.v (.bool false)])]) (fun (():Unit)=>[(13, .glob (GL mx)), (3, .box 65 [.v (.func (.func 213) #[] #[])]), (4, .box 4 [.v (.bool false)])]) (fun l J Y hY t t' h=>ok_strings_splitSeq_1 mx l J Y hY v1.1 v1.2.1 v1.2.2 t t' h) hn rfl (fun _=>rfl) (fun _=>rfl) (fun _=>rfl) rfl rfl (fun _=>⟨rfl, rfl⟩) rfl (glIn_look 13 rfl) ?_ ?_ ?_
  ·rintro kk g0 hn hio x ⟨⟩ u h
   refine ht_es (es':=[(8,vs x),(13,.glob (GL mx)),(3,.box 65 [.v (.func (.func 213) #[] #[])]),(4,.box 4 [vb false]),(13,.v (kk.tm.getD 13 undef)),(3,.v (kk.tm.getD 3 undef)),(4,.v (kk.tm.getD 4 undef)),(14,.inv kk.ready)]) rfl ?_
   refine yy hn 1 [13,3,4,14,5,13,3,4] ?_
   refine pt_pick [0,1,2,4,5,6,7,3] (by kernel_rfl) (es':=[(13,.glob (GL mx)),(3,.box 65 [.v (.func (.func 213) #[] #[])]),(4,.box 4 [vb false]),(5,vs x),(13,.v (kk.tm.getD 13 undef)),(3,.v (kk.tm.getD 3 undef)),(4,.v (kk.tm.getD 4 undef)),(14,.inv kk.ready)]) rfl ?_
   refine pt_begin (es:=[(13,.glob (GL mx)),(3,.box 65 [.v (.func (.func 213) #[] #[])]),(4,.box 4 [vb false]),(5,vs x),(13,.v (kk.tm.getD 13 undef)),(3,.v (kk.tm.getD 3 undef)),(4,.v (kk.tm.getD 4 undef))]) 14 rfl ?_
   refine ht_block ?_
   refine ht_seq ?_
   obtain ⟨v2, hv2, h⟩:=zn h
   refine yx hn 2 ?_
   refine ys 1 ⟨lk call213 (ok_path_atom _ _ hv2)⟩ ?_
   refine yee [13,3,4,14,12,13,3,4] ?_
   refine ht_cond _ rfl (fun hb5 => ?_) (fun hb5 => ?_)
   ·have h:=cond_t hb5 h
    refine yyy hn 1 [13,3,4,14,13,3,4] ?_
    refine ht_ret ?_
    refine pt_r_in ?_
    refine pt_pick [0,1,2,4,5,6,3] (by kernel_rfl) (es':=[(_,_),(_,_),(_,_),(_,_),(_,_),(_,_),(_,_)]) rfl ?_
    obtain rfl:=zi h
    exact pt_rret 14 [13, 3, 4] _ rfl rfl (by kernel_rfl)
   ·have h:=cond_f hb5 h
    refine ht_skip ?_
    refine pt_inb ?_
    refine pt_pick [0,1,2,5,6,7,3] (by kernel_rfl) (es':=[(_,_),(_,_),(_,_),(_,_),(_,_),(_,_),(_,_)]) rfl ?_
    obtain rfl:=zi h
    exact pt_rnext 14 [13, 3, 4] _ rfl rfl (by kernel_rfl)
  ·rintro D ⟨⟩ h
   refine pt_inb ?_
   refine pt_then ?_
   refine yyy hn 1 [13,4] ?_
   refine ht_ret ?_
   refine pt_pick [1] (by kernel_rfl) (es':=[(_,_)]) rfl ?_
   obtain rfl:=zi h
   exact pt_ret hio rfl (.cell1 _ _ _ _ underlying4 rfl .nil) rfl rfl
  ·rintro D ⟨⟩ h
   refine pt_pick [2] (by kernel_rfl) (es':=[(_,_)]) rfl ?_
   refine pt_r_in ?_
   refine pt_r_then ?_
   obtain rfl:=zi h
   exact pt_ret hio rfl (.cell1 _ _ _ _ underlying4 rfl .nil) rfl rfl
theorem ok_path_local (mx:Int×Nat×Value) (s:ByteArray) (r:Bool) (h:Sh.path_local s=some r):FnG Tryz.prog (GL mx) 194 [.v (.string s)] (.v (.bool r)):=by
  unfold Sh.path_local at h
  refine yG 10 func194 fun g0 hn hio => ?_
  refine yyy hn 1 [0,10] ?_
  refine ht_seq ?_
  refine ht_joinS h (fun (s2:Bool)=>[(10,.glob (GL mx)),(2,vb s2)]) ?_ ?_
  ·rintro s2 h
   refine pt_then (ht_ret ?_)
   refine pt_pick [1] (by kernel_rfl) (es':=[(_,_)]) rfl ?_
   obtain rfl:=zi h
   exact pt_ret hio rfl (.tmp _ _ .nil) rfl rfl
  ·intro u3 h hl4 hr5
   refine cond_some h (fun hg1_3 h => ?_) (fun hg1_3 h => ?_)
   ·obtain ⟨v1, hv1, h⟩:=zn h
    refine yx hn 4 ?_
    refine yd hg1_3 1 ?_
    refine ys 2 ⟨lg call69 (ok_path_dotted_of_path_atom _ _ _ hv1) 10⟩ ?_
    refine ye [10,2] ?_
    exact hl4 _ (zi h).symm
   ·refine yx hn 4 ?_
    refine yd hg1_3 4 ?_
    refine ye [10,2] ?_
    exact hl4 _ (zi h).symm
theorem ok_path_Check (mx:Int×Nat×Value) (p:T_Path) (r:Int) (h:Sh.path_Check p=some r):FnG Tryz.prog (GL mx) 162 [.agg [.v (.bool p.Null), .v (.string p.Local), .v (.string p.Domain)]] (.v (.int .i64 r)):=by
  unfold Sh.path_Check at h
  refine yG 27 func162 fun g0 hn hio => ?_
  refine yyy hn 2 [27,1] ?_
  refine yxx hn 1 ?_
  refine yS (.agg [vb true,vs z0,vs z0]) 0 ⟨op_build _ _ _ _ [1,1,1] _ _ underlying26 zr26 (fs26 _ underlying26) (.copy _ Src.nil) rfl rfl rfl⟩ ?_
  refine yS (vb ((p.Null==true)&&((p.Local.toList==z0.toList)&&((p.Domain.toList==z0.toList)&&true)))) 1 ⟨op_eq_st _ _ [.bool p.Null,.string p.Local,.string p.Domain] [.bool true,.string z0,.string z0] (((p.Null==true)&&((p.Local.toList==z0.toList)&&((p.Domain.toList==z0.toList)&&true)))) _ false (by kernel_rfl) (by kernel_rfl) (by kernel_rfl) (by kernel_rfl) (by kernel_rfl) rfl rfl rfl rfl (by kernel_rfl) rfl⟩ ?_
  refine yee [27,1,3] ?_
  refine ht_seq ?_
  refine ht_joinS h (fun (s3:Bool)=>[(27,.glob (GL mx)),(3,vb ((p.Null==true)&&((p.Local.toList==z0.toList)&&((p.Domain.toList==z0.toList)&&true)))),(4,vb s3)]) ?_ ?_
  ·rintro s3 h
   refine pt_then (ht_seq ?_)
   refine ht_seq ?_
   refine ht_joinS h (fun (s7:Bool)=>[(27,.glob (GL mx)),(26,vb s7)]) ?_ ?_
   ·rintro s7 h
    refine pt_then ?_
    refine ht_cond _ rfl (fun hb11 => ?_) (fun hb11 => ?_)
    ·have h:=cond_t hb11 h
     refine yyy hn 1 [27,2] ?_
     refine ht_ret ?_
     refine pt_pick [1] (by kernel_rfl) (es':=[(_,_)]) rfl ?_
     refine pt_r_then ?_
     obtain rfl:=zi h
     exact pt_ret hio rfl (.tmp _ _ .nil) rfl rfl
    ·have h:=cond_f hb11 h
     refine ht_skip ?_
     refine pt_then ?_
     refine yyy hn 1 [27,2] ?_
     refine ht_ret ?_
     refine pt_pick [1] (by kernel_rfl) (es':=[(_,_)]) rfl ?_
     obtain rfl:=zi h
     exact pt_ret hio rfl (.tmp _ _ .nil) rfl rfl
   ·intro u8 h hl9 hr10
    refine cond_some h (fun hg3_2 h => ?_) (fun hg3_2 h => ?_)
    ·refine yx hn 3 ?_
     refine yd hg3_2 3 ?_
     refine ye [27,26] ?_
     exact hl9 _ (zi h).symm
    ·refine yx hn 3 ?_
     refine yd hg3_2 3 ?_
     refine ye [27,26] ?_
     exact hl9 _ (zi h).symm
  ·intro u4 h hl5 hr6
   refine cond_some h (fun hg2_3 h => ?_) (fun hg2_3 h => ?_)
   ·obtain ⟨v1, hv1, h⟩:=zn h
    refine cond_some h (fun hg2_8 h => ?_) (fun hg2_8 h => ?_)
    ·obtain ⟨v2, hv2, h⟩:=zn h
     refine yx hn 4 ?_
     refine yd hg2_3 2 ?_
     refine ys 2 ⟨lg call194 (ok_path_local _ _ _ hv1) 27⟩ ?_
     refine yd hg2_8 2 ?_
     refine ys 2 ⟨lg call55 (ok_path_Domain _ _ _ hv2) 27⟩ ?_
     refine ye [27,3,4] ?_
     exact hl5 _ (zi h).symm
    ·refine yx hn 4 ?_
     refine yd hg2_3 2 ?_
     refine ys 2 ⟨lg call194 (ok_path_local _ _ _ hv1) 27⟩ ?_
     refine yd hg2_8 5 ?_
     refine ye [27,3,4] ?_
     exact hl5 _ (zi h).symm
   ·refine yx hn 4 ?_
    refine yd hg2_3 10 ?_
    refine ye [27,3,4] ?_
    exact hl5 _ (zi h).symm
theorem ok_envelope_Valid (mx:Int×Nat×Value) (m:T_Mail) (r:Bool) (h:Sh.envelope_Valid m=some r):FnG Tryz.prog (GL mx) 201 [.agg [.v (.bool m.From.Null), .v (.string m.From.Local), .v (.string m.From.Domain), .fl .shr 3 (flatten (map T_Path.enc m.To)), .fl .shr 1 (map (int .u8) m.Body), .v (.bool m.Quiet), .v (.string m.Helo), .v (.int .i64 m.At)]] (.v (.bool r)):=by
  unfold Sh.envelope_Valid at h
  refine yG 36 func201 fun g0 hn hio => ?_
  refine yyy hn 2 [36,1] ?_
  refine ht_seq ?_
  refine ht_seq ?_
  refine ht_joinS h (fun (s2:Bool)=>[(36,.glob (GL mx)),(1,.box 53 (T_Mail.c m [])),(20,vb s2)]) ?_ ?_
  ·rintro s2 h
   refine pt_then ?_
   refine ht_cond _ rfl (fun hb6 => ?_) (fun hb6 => ?_)
   ·have h:=cond_t hb6 h
    refine yyy hn 1 [36,2] ?_
    refine ht_ret ?_
    refine pt_pick [1] (by kernel_rfl) (es':=[(_,_)]) rfl ?_
    refine pt_r_then ?_
    obtain rfl:=zi h
    exact pt_ret hio rfl (.tmp _ _ .nil) rfl rfl
   ·have h:=cond_f hb6 h
    refine ht_skip ?_
    refine pt_then (ht_seq ?_)
    refine yyy hn 4 [36,22,23,24] ?_
    refine ht_loopS h (fun (s24:Int)=>[(36,.glob (GL mx)),(22,.fl .shr 3 (flatten (map T_Path.enc m.To))),(23,vi (m.To.length:Int)),(24,vi s24)]) (fun (():Unit)=>[(36,.glob (GL mx))]) ?_ ?_
    ·rintro ⟨⟩ h
     refine pt_then ?_
     refine yyy hn 1 [36,2] ?_
     refine ht_ret ?_
     refine pt_pick [1] (by kernel_rfl) (es':=[(_,_)]) rfl ?_
     obtain rfl:=zi h
     exact pt_ret hio rfl (.tmp _ _ .nil) rfl rfl
    ·rintro u31 hl32 hr33 s24 rr36 h ho34
     refine yyy hn 1 [36,22,23,24,25] ?_
     refine ht_seq ?_
     refine ht_cond _ rfl (fun hb37 => ?_) (fun hb37 => ?_)
     ·have h:=cond_t hb37 h
      refine ht_skip ?_
      refine pt_then (ht_seq ?_)
      refine ht_block ?_
      refine ht_seq ?_
      obtain ⟨v8, hv8, h⟩:=zn h
      obtain ⟨v9, hv9, h⟩:=zn h
      refine yx hn 0 ?_
      refine ys 0 ⟨lj hv8⟩ ?_
      refine yS (.agg [vb v9.Null,vs v9.Local,vs v9.Domain]) 0 ⟨op_load_eA _ _ _ _ _ _ _ underlying26 rfl sz26 rfl rfl (flat_get T_Path.len hv9) rfl (by decide)⟩ ?_
      refine yS (.box 26 [vb false,vs z0,vs z0]) 1 ⟨oA (op_alloc _ _ zr26)⟩ ?_
      refine yee [36,22,23,24,4] ?_
      refine ht_seq ?_
      refine ht_joinS h (fun (s38:Bool)=>[(36,.glob (GL mx)),(22,.fl .shr 3 (flatten (map T_Path.enc m.To))),(23,vi (m.To.length:Int)),(24,vi s24),(34,vb s38)]) ?_ ?_
      ·rintro s38 h
       refine pt_then ?_
       refine ht_cond _ rfl (fun hb42 => ?_) (fun hb42 => ?_)
       ·have h:=cond_t hb42 h
        refine yyy hn 1 [36,2] ?_
        refine ht_ret ?_
        refine pt_pick [1] (by kernel_rfl) (es':=[(_,_)]) rfl ?_
        refine pt_r_in ?_
        refine pt_r_then ?_
        refine pt_r_then ?_
        refine pt_r_in ?_
        refine pt_r_then ?_
        have h:=hr33 _ (ho34 _ (zi h).symm).symm
        obtain rfl:=zi h
        exact pt_ret hio rfl (.tmp _ _ .nil) rfl rfl
       ·have h:=cond_f hb42 h
        refine ht_skip ?_
        refine pt_inb ?_
        refine pt_then ?_
        obtain ⟨v16, hv16, h⟩:=zn h
        refine yx hn 0 ?_
        refine ys 0 ⟨lb hv16⟩ ?_
        refine yw [24] 1 ?_
        refine ye [36,22,23,24] ?_
        exact pt_next _ (zi h).symm rfl
      ·intro u39 h hl40 hr41
       obtain ⟨v10, hv10, h⟩:=zn h
       refine cond_some h (fun hg6_3 h => ?_) (fun hg6_3 h => ?_)
       ·refine yx hn 1 ?_
        refine ys 2 ⟨lg call162 (ok_path_Check _ _ _ hv10) 36⟩ ?_
        refine yd hg6_3 3 ?_
        refine ye [36,22,23,24,34] ?_
        exact hl40 _ (zi h).symm
       ·refine yx hn 1 ?_
        refine ys 2 ⟨lg call162 (ok_path_Check _ _ _ hv10) 36⟩ ?_
        refine yd hg6_3 3 ?_
        refine ye [36,22,23,24,34] ?_
        exact hl40 _ (zi h).symm
     ·have h:=cond_f hb37 h
      refine ht_exit ?_
      refine pt_x_then ?_
      refine pt_x_then ?_
      refine pt_x_in ?_
      refine pt_pick [0] (by kernel_rfl) (es':=[(_,_)]) rfl ?_
      exact hl32 _ (ho34 _ (zi h).symm).symm
  ·intro u3 h hl4 hr5
   obtain ⟨v1, hv1, h⟩:=zn h
   refine cond_some h (fun hg1_4 h => ?_) (fun hg1_4 h => ?_)
   ·refine yx hn 2 ?_
    refine ys 2 ⟨lg call162 (ok_path_Check _ _ _ hv1) 36⟩ ?_
    refine yd hg1_4 11 ?_
    refine ye [36,1,20] ?_
    exact hl4 _ (zi h).symm
   ·refine cond_some h (fun hg1_10 h => ?_) (fun hg1_10 h => ?_)
    ·refine yx hn 2 ?_
     refine ys 2 ⟨lg call162 (ok_path_Check _ _ _ hv1) 36⟩ ?_
     refine yd hg1_4 6 ?_
     refine yd hg1_10 5 ?_
     refine ye [36,1,20] ?_
     exact hl4 _ (zi h).symm
    ·refine yx hn 2 ?_
     refine ys 2 ⟨lg call162 (ok_path_Check _ _ _ hv1) 36⟩ ?_
     refine yd hg1_4 6 ?_
     refine yd hg1_10 5 ?_
     refine ye [36,1,20] ?_
     exact hl4 _ (zi h).symm
theorem ok_bundle_validMail (mx:Int×Nat×Value) (m:T_Mail) (r:Bool) (h:Sh.bundle_validMail m=some r):FnG Tryz.prog (GL mx) 178 [.agg [.v (.bool m.From.Null), .v (.string m.From.Local), .v (.string m.From.Domain), .fl .shr 3 (flatten (map T_Path.enc m.To)), .fl .shr 1 (map (int .u8) m.Body), .v (.bool m.Quiet), .v (.string m.Helo), .v (.int .i64 m.At)]] (.v (.bool r)):=by
  unfold Sh.bundle_validMail at h
  refine yG 17 func178 fun g0 hn hio => ?_
  refine yyy hn 2 [17,1] ?_
  refine ht_seq ?_
  refine ht_joinS h (fun (s3:Bool)=>[(17,.glob (GL mx)),(2,vb s3)]) ?_ ?_
  ·rintro s3 h
   refine pt_then (ht_ret ?_)
   refine pt_pick [1] (by kernel_rfl) (es':=[(_,_)]) rfl ?_
   obtain rfl:=zi h
   exact pt_ret hio rfl (.tmp _ _ .nil) rfl rfl
  ·intro u4 h hl5 hr6
   obtain ⟨v1, hv1, h⟩:=zn h
   refine cond_some h (fun hg1_2 h => ?_) (fun hg1_2 h => ?_)
   ·refine cond_some h (fun hg1_8 h => ?_) (fun hg1_8 h => ?_)
    ·obtain ⟨v2, hv2, h⟩:=zn h
     refine yx hn 1 ?_
     refine ys 1 ⟨lg call201 (ok_envelope_Valid _ _ _ hv1) 17⟩ ?_
     refine yd hg1_2 6 ?_
     refine yd hg1_8 2 ?_
     refine ys 3 ⟨lg call95 (ok_dots_Check _ _ _ hv2) 17⟩ ?_
     refine ye [17,2] ?_
     exact hl5 _ (zi h).symm
    ·refine yx hn 1 ?_
     refine ys 1 ⟨lg call201 (ok_envelope_Valid _ _ _ hv1) 17⟩ ?_
     refine yd hg1_2 6 ?_
     refine yd hg1_8 6 ?_
     refine ye [17,2] ?_
     exact hl5 _ (zi h).symm
   ·refine yx hn 1 ?_
    refine ys 1 ⟨lg call201 (ok_envelope_Valid _ _ _ hv1) 17⟩ ?_
    refine yd hg1_2 12 ?_
    refine ye [17,2] ?_
    exact hl5 _ (zi h).symm
theorem ok_bundle_Check (mx:Int×Nat×Value) (b:T_Bundle) (r:Int) (h:Sh.bundle_Check b=some r):FnG Tryz.prog (GL mx) 151 [.agg [.v (.int .i64 b.Origin), .v (.int .i64 b.Number), .fr .shr true 8 (flatten (map T_Mail.ienc b.Mails))]] (.v (.int .i64 r)):=by
  unfold Sh.bundle_Check at h
  refine yG 58 func151 fun g0 hn hio => ?_
  refine yyy hn 2 [58,1] ?_
  refine ht_seq ?_
  refine ht_seq ?_
  refine ht_joinS h (fun (s1:Bool)=>[(58,.glob (GL mx)),(1,.box 62 [vi b.Origin,vi b.Number,.fr .shr true 8 (flatten (map T_Mail.ienc b.Mails))]),(22,vb s1)]) ?_ ?_
  ·rintro s1 h
   refine pt_then ?_
   refine ht_cond _ rfl (fun hb5 => ?_) (fun hb5 => ?_)
   ·have h:=cond_t hb5 h
    refine yyy hn 1 [58,2] ?_
    refine ht_ret ?_
    refine pt_pick [1] (by kernel_rfl) (es':=[(_,_)]) rfl ?_
    refine pt_r_then ?_
    obtain rfl:=zi h
    exact pt_ret hio rfl (.tmp _ _ .nil) rfl rfl
   ·have h:=cond_f hb5 h
    refine ht_skip ?_
    refine pt_then (ht_seq ?_)
    refine ht_seq ?_
    refine ht_joinS h (fun (s6:Bool)=>[(58,.glob (GL mx)),(1,.box 62 [vi b.Origin,vi b.Number,.fr .shr true 8 (flatten (map T_Mail.ienc b.Mails))]),(32,vb s6)]) ?_ ?_
    ·rintro s6 h
     refine pt_then ?_
     refine ht_cond _ rfl (fun hb10 => ?_) (fun hb10 => ?_)
     ·have h:=cond_t hb10 h
      refine yyy hn 1 [58,2] ?_
      refine ht_ret ?_
      refine pt_pick [1] (by kernel_rfl) (es':=[(_,_)]) rfl ?_
      refine pt_r_then ?_
      obtain rfl:=zi h
      exact pt_ret hio rfl (.tmp _ _ .nil) rfl rfl
     ·have h:=cond_f hb10 h
      refine ht_skip ?_
      refine pt_then (ht_seq ?_)
      refine yyy hn 4 [58,34,35,36] ?_
      refine ht_loopS h (fun (s28:Int)=>[(58,.glob (GL mx)),(34,.fr .shr true 8 (flatten (map T_Mail.ienc b.Mails))),(35,vi (b.Mails.length:Int)),(36,vi s28)]) (fun (():Unit)=>[(58,.glob (GL mx))]) ?_ ?_
      ·rintro ⟨⟩ h
       refine pt_then ?_
       refine yyy hn 1 [58,2] ?_
       refine ht_ret ?_
       refine pt_pick [1] (by kernel_rfl) (es':=[(_,_)]) rfl ?_
       obtain rfl:=zi h
       exact pt_ret hio rfl (.tmp _ _ .nil) rfl rfl
      ·rintro u35 hl36 hr37 s28 rr40 h ho38
       refine yyy hn 1 [58,34,35,36,37] ?_
       refine ht_seq ?_
       refine ht_cond _ rfl (fun hb41 => ?_) (fun hb41 => ?_)
       ·have h:=cond_t hb41 h
        refine ht_skip ?_
        refine pt_then (ht_seq ?_)
        refine ht_block ?_
        refine ht_seq ?_
        obtain ⟨v12, hv12, h⟩:=zn h
        obtain ⟨v13, hv13, h⟩:=zn h
        refine yx hn 0 ?_
        refine ys 0 ⟨lI hv12⟩ ?_
        refine yS (.agg (T_Mail.c v13 [])) 0 ⟨op_loadA_fr _ _ _ _ _ _ _ _ underlying53 rfl sz53 rfl rfl (gflat_get T_Mail.ilen hv13) (.cons (.v _) (.cons (.v _) (.cons (.v _) (.cons (.fl _ _ rfl) (.cons (.fl _ _ rfl) (.cons (.v _) (.cons (.v _) (.cons (.v _) (.nil))))))))) rfl (by decide)⟩ ?_
        refine yS (.box 53 [vb false,vs z0,vs z0,vz,vz,vb false,vs z0,vi 0]) 1 ⟨oA (op_alloc _ _ zr53)⟩ ?_
        refine yee [58,34,35,36,4] ?_
        refine ht_seq ?_
        refine ht_joinS h (fun (s42:Bool)=>[(58,.glob (GL mx)),(34,.fr .shr true 8 (flatten (map T_Mail.ienc b.Mails))),(35,vi (b.Mails.length:Int)),(36,vi s28),(56,vb s42)]) ?_ ?_
        ·rintro s42 h
         refine pt_then ?_
         refine ht_cond _ rfl (fun hb46 => ?_) (fun hb46 => ?_)
         ·have h:=cond_t hb46 h
          refine yyy hn 1 [58,2] ?_
          refine ht_ret ?_
          refine pt_pick [1] (by kernel_rfl) (es':=[(_,_)]) rfl ?_
          refine pt_r_in ?_
          refine pt_r_then ?_
          refine pt_r_then ?_
          refine pt_r_in ?_
          refine pt_r_then ?_
          have h:=hr37 _ (ho38 _ (zi h).symm).symm
          obtain rfl:=zi h
          exact pt_ret hio rfl (.tmp _ _ .nil) rfl rfl
         ·have h:=cond_f hb46 h
          refine ht_skip ?_
          refine pt_inb ?_
          refine pt_then ?_
          obtain ⟨v20, hv20, h⟩:=zn h
          refine yx hn 0 ?_
          refine ys 0 ⟨lb hv20⟩ ?_
          refine yw [36] 1 ?_
          refine ye [58,34,35,36] ?_
          exact pt_next _ (zi h).symm rfl
        ·intro u43 h hl44 hr45
         obtain ⟨v14, hv14, h⟩:=zn h
         refine cond_some h (fun hg8_3 h => ?_) (fun hg8_3 h => ?_)
         ·refine yx hn 1 ?_
          refine ys 2 ⟨lg call178 (ok_bundle_validMail _ _ _ hv14) 58⟩ ?_
          refine yd hg8_3 13 ?_
          refine ye [58,34,35,36,56] ?_
          exact hl44 _ (zi h).symm
         ·refine cond_some h (fun hg8_7 h => ?_) (fun hg8_7 h => ?_)
          ·refine yx hn 1 ?_
           refine ys 2 ⟨lg call178 (ok_bundle_validMail _ _ _ hv14) 58⟩ ?_
           refine yd hg8_3 4 ?_
           refine yd hg8_7 9 ?_
           refine ye [58,34,35,36,56] ?_
           exact hl44 _ (zi h).symm
          ·refine cond_some h (fun hg8_12 h => ?_) (fun hg8_12 h => ?_)
           ·refine yx hn 1 ?_
            refine ys 2 ⟨lg call178 (ok_bundle_validMail _ _ _ hv14) 58⟩ ?_
            refine yd hg8_3 4 ?_
            refine yd hg8_7 5 ?_
            refine yd hg8_12 4 ?_
            refine ye [58,34,35,36,56] ?_
            exact hl44 _ (zi h).symm
           ·refine yx hn 1 ?_
            refine ys 2 ⟨lg call178 (ok_bundle_validMail _ _ _ hv14) 58⟩ ?_
            refine yd hg8_3 4 ?_
            refine yd hg8_7 5 ?_
            refine yd hg8_12 4 ?_
            refine ye [58,34,35,36,56] ?_
            exact hl44 _ (zi h).symm
       ·have h:=cond_f hb41 h
        refine ht_exit ?_
        refine pt_x_then ?_
        refine pt_x_then ?_
        refine pt_x_in ?_
        refine pt_pick [0] (by kernel_rfl) (es':=[(_,_)]) rfl ?_
        exact hl36 _ (ho38 _ (zi h).symm).symm
    ·intro u7 h hl8 hr9
     refine cond_some h (fun hg3_4 h => ?_) (fun hg3_4 h => ?_)
     ·refine yx hn 5 ?_
      refine yd hg3_4 5 ?_
      refine ye [58,1,32] ?_
      exact hl8 _ (zi h).symm
     ·refine yx hn 5 ?_
      refine yd hg3_4 5 ?_
      refine ye [58,1,32] ?_
      exact hl8 _ (zi h).symm
  ·intro u2 h hl3 hr4
   refine cond_some h (fun hg1_3 h => ?_) (fun hg1_3 h => ?_)
   ·refine cond_some h (fun hg1_8 h => ?_) (fun hg1_8 h => ?_)
    ·refine yx hn 4 ?_
     refine yd hg1_3 5 ?_
     refine yd hg1_8 9 ?_
     refine ye [58,1,22] ?_
     exact hl3 _ (zi h).symm
    ·refine cond_some h (fun hg1_13 h => ?_) (fun hg1_13 h => ?_)
     ·refine yx hn 4 ?_
      refine yd hg1_3 5 ?_
      refine yd hg1_8 5 ?_
      refine yd hg1_13 4 ?_
      refine ye [58,1,22] ?_
      exact hl3 _ (zi h).symm
     ·refine yx hn 4 ?_
      refine yd hg1_3 5 ?_
      refine yd hg1_8 5 ?_
      refine yd hg1_13 4 ?_
      refine ye [58,1,22] ?_
      exact hl3 _ (zi h).symm
   ·refine cond_some h (fun hg1_13 h => ?_) (fun hg1_13 h => ?_)
    ·refine yx hn 4 ?_
     refine yd hg1_3 10 ?_
     refine yd hg1_13 4 ?_
     refine ye [58,1,22] ?_
     exact hl3 _ (zi h).symm
    ·refine yx hn 4 ?_
     refine yd hg1_3 10 ?_
     refine yd hg1_13 4 ?_
     refine ye [58,1,22] ?_
     exact hl3 _ (zi h).symm
theorem ok_path_Text (mx:Int×Nat×Value) (p:T_Path) (r:(ByteArray×Int)) (h:Sh.path_Text p=some r):FnG Tryz.prog (GL mx) 180 [.agg [.v (.bool p.Null), .v (.string p.Local), .v (.string p.Domain)]] (.tup [.v (.string r.1), .v (.int .i64 r.2)]):=by
  unfold Sh.path_Text at h
  refine yG 20 func180 fun g0 hn hio => ?_
  refine yyy hn 3 [20,1] ?_
  refine ht_seq ?_
  refine ht_seq ?_
  obtain ⟨v1, hv1, h⟩:=zn h
  refine yx hn 1 ?_
  refine ys 1 ⟨lg call162 (ok_path_Check _ _ _ hv1) 20⟩ ?_
  refine yee [20,1,4] ?_
  refine yyy hn 2 [20,1,4,8] ?_
  refine ht_cond _ rfl (fun hb2 => ?_) (fun hb2 => ?_)
  ·have h:=cond_t hb2 h
   refine yyy hn 3 [20,2,3] ?_
   refine ht_ret ?_
   refine pt_pick [1,2] (by kernel_rfl) (es':=[(_,_),(_,_)]) rfl ?_
   refine pt_r_then ?_
   obtain rfl:=zi h
   exact pt_ret hio rfl (.tmp _ _ (.tmp _ _ .nil)) rfl rfl
  ·have h:=cond_f hb2 h
   refine ht_skip ?_
   refine pt_then (ht_seq ?_)
   refine yyy hn 2 [20,1,11] ?_
   refine ht_cond _ rfl (fun hb3 => ?_) (fun hb3 => ?_)
   ·have h:=cond_t hb3 h
    refine yyy hn 2 [20,2,3] ?_
    refine ht_ret ?_
    refine pt_pick [1,2] (by kernel_rfl) (es':=[(_,_),(_,_)]) rfl ?_
    refine pt_r_then ?_
    obtain rfl:=zi h
    exact pt_ret hio rfl (.tmp _ _ (.tmp _ _ .nil)) rfl rfl
   ·have h:=cond_f hb3 h
    refine ht_skip ?_
    refine pt_then (ht_seq ?_)
    obtain ⟨v4, hv4, h⟩:=zn h
    obtain ⟨v5, hv5, h⟩:=zn h
    obtain ⟨v6, hv6, h⟩:=zn h
    obtain ⟨v7, hv7, h⟩:=zn h
    refine yx hn 2 ?_
    refine ys 0 ⟨lB (cat_ok hv4)⟩ ?_
    refine ys 2 ⟨lB (cat_ok hv5)⟩ ?_
    refine ys 0 ⟨lB (cat_ok hv6)⟩ ?_
    refine ys 2 ⟨lB (cat_ok hv7)⟩ ?_
    refine yee [20,2,3] ?_
    refine ht_ret ?_
    refine pt_pick [1,2] (by kernel_rfl) (es':=[(_,_),(_,_)]) rfl ?_
    obtain rfl:=zi h
    exact pt_ret hio rfl (.tmp _ _ (.tmp _ _ .nil)) rfl rfl
theorem ok_bundle_commands_1_clo (mx:Int×Nat×Value) (word:ByteArray) (p:T_Path) (cap:(List Int)) (r:(List Int)) (h:Sh.bundle_commands_1_clo word p cap=some r):FnPG Tryz.prog (GL mx) 179 [.v (.string word), .agg [.v (.bool p.Null), .v (.string p.Local), .v (.string p.Domain)], .box 28 [.fl (.own 5) 1 (map (int .u8) cap)]] [.v (.string word), .agg [.v (.bool p.Null), .v (.string p.Local), .v (.string p.Domain)], .box 28 [.fl (.own 5) 1 (map (int .u8) r)]] (.tup []):=by
  unfold Sh.bundle_commands_1_clo at h
  refine yPG 18 func179 fun args0 hargs0 g0 hn hio => ?_
  refine yyy hn 1 [0,1,2,18,4,0,1,2] ?_
  refine ht_seq ?_
  obtain ⟨v1, hv1, h⟩:=zn h
  refine yx hn 1 ?_
  refine ys 0 ⟨lg call180 (ok_path_Text _ _ _ hv1) 18⟩ ?_
  refine ym 4 ?_
  refine yee [0,1,2,18,5,0,1,2] ?_
  obtain ⟨v2, hv2, h⟩:=zn h
  obtain ⟨v3, hv3, h⟩:=zn h
  obtain ⟨v4, hv4, h⟩:=zn h
  refine yx hn 3 ?_
  refine ys 0 ⟨lB (cat_ok hv2)⟩ ?_
  refine ys 0 ⟨lB (cat_ok hv3)⟩ ?_
  refine yk [2] [12,16] ?_
  refine ytt (2,.box 28 [.any]) (17,.fl (.own 5) 1 (map (int .u8) v4)) 0 ⟨op_apps_cell _ _ _ _ _ _ el28 zr5 underlying9 rfl rfl (zl rfl) rfl rfl hv4 rfl (Nat.ne_of_beq_eq_false rfl) rfl rfl⟩ ?_
  refine yw [12] 0 ?_
  refine yk [17,2] [] ?_
  refine yt (2,.box 28 [.fl (.own 5) 1 (map (int .u8) v4)]) 0 ⟨op_store_take _ _ _ _ _ _ _ _ sz28 rfl rfl rfl (zl rfl) rfl rfl⟩ ?_
  refine ye [0,1,2,18,0,1,2] ?_
  refine pt_pick [0,1,2,4,5,6] (by kernel_rfl) (es':=[(_,_),(_,_),(_,_),(_,_),(_,_),(_,_)]) rfl ?_
  obtain rfl:=zi h
  exact pt_endP (es:=[]) (posts:=[.v (.string word), .agg [.v (.bool p.Null),.v (.string p.Local),.v (.string p.Domain)], .box 28 [.fl (.own 5) 1 (map (int .u8) v4)]]) hio rfl rfl .nil rfl rfl hargs0 rfl
theorem ok_dots_Stuff (mx:Int×Nat×Value) (b:(List Int)) (r:((List Int)×Int)) (h:Sh.dots_Stuff b=some r):FnG Tryz.prog (GL mx) 181 [.fl .shr 1 (map (int .u8) b)] (.tup [.fl (.own 5) 1 (map (int .u8) r.1), .v (.int .i64 r.2)]):=by
  unfold Sh.dots_Stuff at h
  refine yG 28 func181 fun g0 hn hio => ?_
  refine yyy hn 2 [0,28] ?_
  refine ht_seq ?_
  refine ht_seq ?_
  obtain ⟨v1, hv1, h⟩:=zn h
  refine yx hn 1 ?_
  refine ys 1 ⟨lg call95 (ok_dots_Check _ _ _ hv1) 28⟩ ?_
  refine yee [0,28,4] ?_
  refine yyy hn 2 [0,28,4,10] ?_
  refine ht_cond _ rfl (fun hb2 => ?_) (fun hb2 => ?_)
  ·have h:=cond_t hb2 h
   refine yyy hn 3 [28,2,3] ?_
   refine ht_ret ?_
   refine pt_pick [1,2] (by kernel_rfl) (es':=[(_,_),(_,_)]) rfl ?_
   refine pt_sub (fs:=[(2,.fl (.own 5) 1 (map (int .u8) [])),(3,vi v1)]) (.sub _ (sub_nil 5 1) rfl (.same _ .nil)) ?_
   refine pt_r_then ?_
   obtain rfl:=zi h
   exact pt_ret hio rfl (.tmp _ _ (.tmp _ _ .nil)) rfl rfl
  ·have h:=cond_f hb2 h
   refine ht_skip ?_
   refine pt_then ?_
   refine yxx hn 0 ?_
   refine yS (.box 28 [vz]) 0 ⟨oA (op_alloc _ _ zr28)⟩ ?_
   refine yee [0,28,5] ?_
   refine ht_seq ?_
   refine ht_seq ?_
   obtain ⟨v3, hv3, h⟩:=zn h
   refine yx hn 1 ?_
   refine yk [] [12] ?_
   refine yt (13,.cloB 123 [.box 28 [fb v3]]) 0 ⟨op_callS _ _ 96 _ _ rfl call96 rfl rfl (ok_dots_lines b _ hv3) rfl⟩ ?_
   refine yee [28,5,13] ?_
   refine ht_block ?_
   refine ht_pick [2,0,1] (by kernel_rfl) (es':=[(13,.cloB 123 [.box 28 [fb v3]]),(28,.glob (GL mx)),(5,.box 28 [vz])]) rfl ?_
   refine ht_sub (fs:=[(13,.cloB 123 [.box 28 [fb v3]]),(28,.glob (GL mx)),(5,.box 28 [.fl (.own 5) 1 (map (int .u8) [])])]) (.same _ (.same _ (.box _ _ (subs_cons (sub_nil 5 1) (subs_nil)) rfl .nil))) ?_
   refine ht_rangeF h 123 13 14 29 _ [28, 5] call123 (fun (s21:(List Int))=>[(28, .glob (GL mx)), (5, .box 28 [.fl (.own 5) 1 (map (int .u8) s21)])]) (fun (():Unit)=>[]) (fun l J Y hY t t' h=>ok_dots_lines_1 mx l J Y hY v3 t t' h) hn rfl (fun _=>rfl) (fun _=>rfl) (fun _=>rfl) rfl rfl (fun _=>⟨rfl, rfl⟩) rfl (glIn_look 28 rfl) ?_ ?_ ?_
   ·rintro kk g0 hn hio x s21 u h
    refine ht_es (es':=[(14,fb x),(28,.glob (GL mx)),(5,.box 28 [.fl (.own 5) 1 (map (int .u8) s21)]),(28,.v (kk.tm.getD 28 undef)),(5,.v (kk.tm.getD 5 undef)),(29,.inv kk.ready)]) rfl ?_
    refine yy hn 1 [28,5,29,6,28,5] ?_
    refine pt_pick [0,1,3,4,5,2] (by kernel_rfl) (es':=[(28,.glob (GL mx)),(5,.box 28 [.fl (.own 5) 1 (map (int .u8) s21)]),(6,fb x),(28,.v (kk.tm.getD 28 undef)),(5,.v (kk.tm.getD 5 undef)),(29,.inv kk.ready)]) rfl ?_
    refine pt_begin (es:=[(28,.glob (GL mx)),(5,.box 28 [.fl (.own 5) 1 (map (int .u8) s21)]),(6,fb x),(28,.v (kk.tm.getD 28 undef)),(5,.v (kk.tm.getD 5 undef))]) 29 rfl ?_
    refine ht_block ?_
    refine ht_seq ?_
    refine ht_joinS h (fun (s29:(List Int))=>[(28,.glob (GL mx)),(5,.box 28 [.fl (.own 5) 1 (map (int .u8) s29)]),(6,fb x),(29,.inv kk.busy),(28,.v (kk.tm.getD 28 undef)),(5,.v (kk.tm.getD 5 undef))]) ?_ ?_
    ·rintro s29 h
     refine pt_then (ht_seq ?_)
     obtain ⟨v12, hv12, h⟩:=zn h
     refine yx hn 2 ?_
     refine yk [5] [21,22] ?_
     refine ytt (5,.box 28 [.any]) (23,.fl (.own 5) 1 (map (int .u8) v12)) 0 ⟨op_app_cell _ _ _ _ _ _ el28 rfl rfl (zl rfl) rfl (map_len _) (map_len _) hv12 ((List.map_append).symm.trans (congrArg (map _) (app_eq hv12))) (Nat.ne_of_beq_eq_false rfl) rfl rfl⟩ ?_
     refine yw [21] 0 ?_
     refine yk [23,5] [] ?_
     refine yt (5,.box 28 [.fl (.own 5) 1 (map (int .u8) v12)]) 0 ⟨op_store_take _ _ _ _ _ _ _ _ sz28 rfl rfl rfl (zl rfl) rfl rfl⟩ ?_
     refine yee [28,5,29,28,5] ?_
     obtain ⟨v13, hv13, h⟩:=zn h
     refine yx hn 1 ?_
     refine yk [5] [24] ?_
     refine ytt (5,.box 28 [.any]) (25,.fl (.own 5) 1 (map (int .u8) v13)) 0 ⟨op_apps_cell _ _ _ _ _ _ el28 zr5 underlying9 rfl rfl (zl rfl) rfl rfl hv13 rfl (Nat.ne_of_beq_eq_false rfl) rfl rfl⟩ ?_
     refine yw [24] 0 ?_
     refine yk [25,5] [] ?_
     refine yt (5,.box 28 [.fl (.own 5) 1 (map (int .u8) v13)]) 0 ⟨op_store_take _ _ _ _ _ _ _ _ sz28 rfl rfl rfl (zl rfl) rfl rfl⟩ ?_
     refine ye [28,5,29,28,5] ?_
     refine pt_inb ?_
     refine pt_pick [0,1,3,4,2] (by kernel_rfl) (es':=[(_,_),(_,_),(_,_),(_,_),(_,_)]) rfl ?_
     obtain rfl:=zi h
     exact pt_rnext 29 [28, 5] _ rfl rfl (by kernel_rfl)
    ·intro u30 h hl31 hr32
     refine ht_seq ?_
     obtain ⟨v4, hv4, h⟩:=zn h
     refine yx hn 1 ?_
     refine yS (.fl (.own 5) 1 (map (int .u8) [46])) 0 ⟨op_buildSlice _ _ 1 (.int .u8 0) (map (int .u8) [46]) [(0,.int .u8 46)] underlying28 sz5 zr5 (fun _ V w o a hv hes=>by simp only [List.map_toArray,List.map_cons,List.map_nil]; try rfl) (litfill (by simp [Instr.fill,Value.cells]; rfl) (by simp [List.range,List.range.loop] <;> rfl)) (by simp [Value.oneCell']) rfl (by decide) (by decide) (by decide)⟩ ?_
     refine yk [16] [] ?_
     refine yt (17,.fl .ro 1 (map (int .u8) [46])) 0 ⟨op_conv_mark _ _ _ underlying28 underlying5 (by intro h; cases h)⟩ ?_
     refine ys 0 ⟨lk call124 (ok_bytes_HasPrefix _ _ _ hv4)⟩ ?_
     refine yee [28,5,6,29,18,28,5] ?_
     refine ht_cond _ rfl (fun hb33 => ?_) (fun hb33 => ?_)
     ·have h:=cond_t hb33 h
      obtain ⟨v6, hv6, h⟩:=zn h
      refine yx hn 1 ?_
      refine yk [5] [19] ?_
      refine ytt (5,.box 28 [.any]) (20,.fl (.own 5) 1 (map (int .u8) v6)) 0 ⟨op_apps_cell _ _ _ _ _ _ el28 zr5 underlying9 rfl rfl (zl rfl) rfl rfl hv6 rfl (Nat.ne_of_beq_eq_false rfl) rfl rfl⟩ ?_
      refine yw [19] 0 ?_
      refine yk [20,5] [] ?_
      refine yt (5,.box 28 [.fl (.own 5) 1 (map (int .u8) v6)]) 0 ⟨op_store_take _ _ _ _ _ _ _ _ sz28 rfl rfl rfl (zl rfl) rfl rfl⟩ ?_
      refine ye [28,5,6,29,28,5] ?_
      exact hl31 _ (zi h).symm
     ·have h:=cond_f hb33 h
      refine ht_skip ?_
      refine pt_pick [0,1,2,3,5,6] (by kernel_rfl) (es':=[(_,_),(_,_),(_,_),(_,_),(_,_),(_,_)]) rfl ?_
      exact hl31 _ (zi h).symm
   ·rintro D s21 h
    refine pt_inb ?_
    refine pt_then (ht_seq ?_)
    obtain ⟨v34, hv34, h⟩:=zn h
    refine yx hn 1 ?_
    refine yk [5] [26] ?_
    refine ytt (5,.box 28 [.any]) (27,.fl (.own 5) 1 (map (int .u8) v34)) 0 ⟨op_apps_cell _ _ _ _ _ _ el28 zr5 underlying9 rfl rfl (zl rfl) rfl rfl hv34 rfl (Nat.ne_of_beq_eq_false rfl) rfl rfl⟩ ?_
    refine ya 1 ?_
    refine yee [28,2,3] ?_
    refine ht_ret ?_
    refine pt_pick [1,2] (by kernel_rfl) (es':=[(_,_),(_,_)]) rfl ?_
    obtain rfl:=zi h
    exact pt_ret hio rfl (.tmp _ _ (.tmp _ _ .nil)) rfl rfl
   ·rintro D ⟨⟩ h
    cases h
theorem ok_bundle_commands (mx:Int×Nat×Value) (mails:(List T_Mail)) (r:(List Int)) (h:Sh.bundle_commands mails=some r):FnG Tryz.prog (GL mx) 152 [.fr .shr true 8 (flatten (map T_Mail.ienc mails))] (.fl (.own 5) 1 (map (int .u8) r)):=by
  unfold Sh.bundle_commands at h
  refine yG 47 func152 fun g0 hn hio => ?_
  refine yyy hn 1 [0,47] ?_
  refine yxx hn 0 ?_
  refine yS (.box 28 [vz]) 0 ⟨oA (op_alloc _ _ zr28)⟩ ?_
  refine yee [0,47,3] ?_
  refine yxx hn 0 ?_
  refine yS (.clo 179 [3]) 1 ⟨op_makeFunc_name _ _ _ 3 (by decide)⟩ ?_
  refine yee [0,47,3,4] ?_
  refine ht_seq ?_
  refine yyy hn 3 [47,3,4,12,13,14] ?_
  refine ht_sub (fs:=[(47,.glob (GL mx)),(3,.box 28 [.fl (.own 5) 1 (map (int .u8) [])]),(4,.clo 179 [3]),(12,.fr .shr true 8 (flatten (map T_Mail.ienc mails))),(13,vi (mails.length:Int)),(14,vi 0)]) (.same _ (.box _ _ (subs_cons (sub_nil 5 1) (subs_nil)) rfl (.same _ (.same _ (.same _ (.same _ .nil)))))) ?_
  refine ht_loopS h (fun ((s46,s47):(List Int)×Int)=>[(47,.glob (GL mx)),(3,.box 28 [.fl (.own 5) 1 (map (int .u8) s46)]),(4,.clo 179 [3]),(12,.fr .shr true 8 (flatten (map T_Mail.ienc mails))),(13,vi (mails.length:Int)),(14,vi s47)]) (fun (s64:(List Int))=>[(47,.glob (GL mx)),(3,.box 28 [.fl (.own 5) 1 (map (int .u8) s64)])]) ?_ ?_
  ·rintro s64 h
   refine pt_then (ht_seq ?_)
   obtain ⟨v87, hv87, h⟩:=zn h
   refine yx hn 1 ?_
   refine yk [3] [45] ?_
   refine ytt (3,.box 28 [.any]) (46,.fl (.own 5) 1 (map (int .u8) v87)) 0 ⟨op_apps_cell _ _ _ _ _ _ el28 zr5 underlying9 rfl rfl (zl rfl) rfl rfl hv87 rfl (Nat.ne_of_beq_eq_false rfl) rfl rfl⟩ ?_
   refine ya 0 ?_
   refine yee [47,2] ?_
   refine ht_ret ?_
   refine pt_pick [1] (by kernel_rfl) (es':=[(_,_)]) rfl ?_
   obtain rfl:=zi h
   exact pt_ret hio rfl (.tmp _ _ .nil) rfl rfl
  ·rintro u65 hl66 hr67 ⟨s46, s47⟩ rr70 h ho68
   refine yyy hn 1 [47,3,4,12,13,14,15] ?_
   refine ht_seq ?_
   refine ht_cond _ rfl (fun hb71 => ?_) (fun hb71 => ?_)
   ·have h:=cond_t hb71 h
    refine ht_skip ?_
    refine pt_then (ht_seq ?_)
    refine ht_block ?_
    refine ht_seq ?_
    obtain ⟨v2, hv2, h⟩:=zn h
    obtain ⟨v3, hv3, h⟩:=zn h
    refine yx hn 0 ?_
    refine ys 0 ⟨lI hv2⟩ ?_
    refine yS (.agg (T_Mail.c v3 [])) 0 ⟨op_loadA_fr _ _ _ _ _ _ _ _ underlying53 rfl sz53 rfl rfl (gflat_get T_Mail.ilen hv3) (.cons (.v _) (.cons (.v _) (.cons (.v _) (.cons (.fl _ _ rfl) (.cons (.fl _ _ rfl) (.cons (.v _) (.cons (.v _) (.cons (.v _) (.nil))))))))) rfl (by decide)⟩ ?_
    refine yS (.box 53 [vb false,vs z0,vs z0,vz,vz,vb false,vs z0,vi 0]) 1 ⟨oA (op_alloc _ _ zr53)⟩ ?_
    refine yee [47,3,4,12,13,14,6] ?_
    refine ht_seq ?_
    obtain ⟨v4, hv4, h⟩:=zn h
    refine yx hn 3 ?_
    refine yk [3] [18,20,47] ?_
    refine ytt (3,.box 28 [.fl (.own 5) 1 (map (int .u8) v4)]) (21,.tup []) 0 ⟨op_callLG _ _ _ 21 18 3 47 179 [_,.tmp 20] _ _ _ _ rfl call179 rfl rfl rfl (fun _ h=>h) (ok_bundle_commands_1_clo mx (⟨#[77,65,73,76,32,70,82,79,77,58]⟩:ByteArray) (T_Path.mk v3.From.Null v3.From.Local v3.From.Domain) s46 _ hv4) rfl rfl rfl rfl rfl rfl rfl rfl⟩ ?_
    refine yee [47,3,4,12,13,14,6] ?_
    refine ht_seq ?_
    refine yyy hn 4 [47,3,4,12,13,14,6,23,24,25] ?_
    refine ht_loopS h (fun ((s76,s77):(List Int)×Int)=>[(47,.glob (GL mx)),(3,.box 28 [.fl (.own 5) 1 (map (int .u8) s76)]),(4,.clo 179 [3]),(12,.fr .shr true 8 (flatten (map T_Mail.ienc mails))),(13,vi (mails.length:Int)),(14,vi s47),(6,.box 53 (T_Mail.c v3 [])),(23,.fl .shr 3 (flatten (map T_Path.enc v3.To))),(24,vi (v3.To.length:Int)),(25,vi s77)]) (fun (s79:(List Int))=>[(47,.glob (GL mx)),(3,.box 28 [.fl (.own 5) 1 (map (int .u8) s79)]),(4,.clo 179 [3]),(12,.fr .shr true 8 (flatten (map T_Mail.ienc mails))),(13,vi (mails.length:Int)),(14,vi s47),(6,.box 53 (T_Mail.c v3 []))]) ?_ ?_
    ·rintro s79 h
     refine pt_then (ht_seq ?_)
     obtain ⟨v24, hv24, h⟩:=zn h
     refine yx hn 1 ?_
     refine yk [3] [33] ?_
     refine ytt (3,.box 28 [.any]) (34,.fl (.own 5) 1 (map (int .u8) v24)) 0 ⟨op_apps_cell _ _ _ _ _ _ el28 zr5 underlying9 rfl rfl (zl rfl) rfl rfl hv24 rfl (Nat.ne_of_beq_eq_false rfl) rfl rfl⟩ ?_
     refine yw [33] 0 ?_
     refine yk [34,3] [] ?_
     refine yt (3,.box 28 [.fl (.own 5) 1 (map (int .u8) v24)]) 0 ⟨op_store_take _ _ _ _ _ _ _ _ sz28 rfl rfl rfl (zl rfl) rfl rfl⟩ ?_
     refine yee [47,3,4,12,13,14,6] ?_
     refine ht_seq ?_
     obtain ⟨v25, hv25, h⟩:=zn h
     refine yx hn 2 ?_
     refine ys 0 ⟨lg call181 (ok_dots_Stuff _ _ _ hv25) 47⟩ ?_
     refine ym 0 ?_
     refine yx_ 1 ?_
     refine ya 1 ?_
     refine yee [47,3,4,12,13,14,9] ?_
     obtain ⟨v26, hv26, h⟩:=zn h
     refine yx hn 1 ?_
     refine ym 0 ?_
     refine yk [3] [41,42] ?_
     refine ytt (3,.box 28 [.any]) (43,.fl (.own 5) 1 (map (int .u8) v26)) 0 ⟨op_app_cell _ _ _ _ _ _ el28 rfl rfl (zl rfl) rfl (map_len _) (map_len _) hv26 ((List.map_append).symm.trans (congrArg (map _) (app_eq hv26))) (Nat.ne_of_beq_eq_false rfl) rfl rfl⟩ ?_
     refine yw [41] 0 ?_
     refine yk [43,3] [] ?_
     refine yt (3,.box 28 [.fl (.own 5) 1 (map (int .u8) v26)]) 0 ⟨op_store_take _ _ _ _ _ _ _ _ sz28 rfl rfl rfl (zl rfl) rfl rfl⟩ ?_
     refine ye [47,3,4,12,13,14] ?_
     refine pt_inb ?_
     refine pt_then ?_
     obtain ⟨v27, hv27, h⟩:=zn h
     refine yx hn 0 ?_
     refine ys 0 ⟨lb hv27⟩ ?_
     refine yw [14] 1 ?_
     refine ye [47,3,4,12,13,14] ?_
     exact pt_next _ (zi h).symm rfl
    ·rintro u80 hl81 hr82 ⟨s76, s77⟩ rr85 h ho83
     refine yyy hn 1 [47,3,4,12,13,14,6,23,24,25,26] ?_
     refine ht_seq ?_
     refine ht_cond _ rfl (fun hb86 => ?_) (fun hb86 => ?_)
     ·have h:=cond_t hb86 h
      refine ht_skip ?_
      refine pt_then (ht_seq ?_)
      refine ht_block ?_
      refine ht_seq ?_
      obtain ⟨v6, hv6, h⟩:=zn h
      obtain ⟨v7, hv7, h⟩:=zn h
      refine yx hn 0 ?_
      refine ys 0 ⟨lj hv6⟩ ?_
      refine yS (.agg [vb v7.Null,vs v7.Local,vs v7.Domain]) 0 ⟨op_load_eA _ _ _ _ _ _ _ underlying26 rfl sz26 rfl rfl (flat_get T_Path.len hv7) rfl (by decide)⟩ ?_
      refine yS (.box 26 [vb false,vs z0,vs z0]) 1 ⟨oA (op_alloc _ _ zr26)⟩ ?_
      refine yee [47,3,4,12,13,14,6,23,24,25,8] ?_
      obtain ⟨v8, hv8, h⟩:=zn h
      refine yx hn 2 ?_
      refine yk [3] [29,30,47] ?_
      refine ytt (3,.box 28 [.fl (.own 5) 1 (map (int .u8) v8)]) (31,.tup []) 0 ⟨op_callLG _ _ _ 31 29 3 47 179 [_,.tmp 30] _ _ _ _ rfl call179 rfl rfl rfl (fun _ h=>h) (ok_bundle_commands_1_clo mx (⟨#[82,67,80,84,32,84,79,58]⟩:ByteArray) v7 s76 _ hv8) rfl rfl rfl rfl rfl rfl rfl rfl⟩ ?_
      refine ye [47,3,4,12,13,14,6,23,24,25] ?_
      refine pt_inb ?_
      refine pt_then ?_
      obtain ⟨v9, hv9, h⟩:=zn h
      refine yx hn 0 ?_
      refine ys 0 ⟨lb hv9⟩ ?_
      refine yw [25] 1 ?_
      refine ye [47,3,4,12,13,14,6,23,24,25] ?_
      exact pt_next _ (zi h).symm rfl
     ·have h:=cond_f hb86 h
      refine ht_exit ?_
      refine pt_x_then ?_
      refine pt_x_then ?_
      refine pt_x_in ?_
      refine pt_pick [0,1,2,3,4,5,6] (by kernel_rfl) (es':=[(_,_),(_,_),(_,_),(_,_),(_,_),(_,_),(_,_)]) rfl ?_
      exact hl81 _ (ho83 _ (zi h).symm).symm
   ·have h:=cond_f hb71 h
    refine ht_exit ?_
    refine pt_x_then ?_
    refine pt_x_then ?_
    refine pt_x_in ?_
    refine pt_pick [0,1] (by kernel_rfl) (es':=[(_,_),(_,_)]) rfl ?_
    exact hl66 _ (ho68 _ (zi h).symm).symm
theorem ok_sums_table (divisor:Int) (r:(List Int)) (h:Sh.sums_table divisor=some r):FnOK Tryz.prog 202 [.v (.int .u32 divisor)] (.v (.agg (map (int .u32) r).toArray)):=by
  unfold Sh.sums_table at h
  refine yO 29 func202 fun g0 hn hio => ?_
  refine yxx hn 0 ?_
  refine yS (.arr 222 (map (int .u32) ((List.replicate 16 (0:Int))))) 0 ⟨oA (op_alloc_arr _ za222)⟩ ?_
  refine yee [0,2] ?_
  refine yxx hn 0 ?_
  refine yS (.arr 222 (map (int .u32) ((List.replicate 16 (0:Int))))) 0 ⟨oA (op_alloc_arr _ za222)⟩ ?_
  refine yee [0,2,3] ?_
  refine ht_seq ?_
  refine yyy hn 1 [0,2,3,7] ?_
  refine ht_loopS h (fun ((s91,s92):(List Int)×Int)=>[(0,.v (.int .u32 divisor)),(2,.arr 222 (map (int .u32) ((List.replicate 16 (0:Int))))),(3,.arr 222 (map (int .u32) s91)),(7,vi s92)]) (fun (s133:(List Int))=>[(2,.arr 222 (map (int .u32) ((List.replicate 16 (0:Int))))),(3,.arr 222 (map (int .u32) s133))]) ?_ ?_
  ·rintro s133 h
   refine pt_then (ht_seq ?_)
   obtain ⟨v180, hv180, h⟩:=zn h
   obtain ⟨v181, hv181, h⟩:=zn h
   obtain ⟨v182, hv182, h⟩:=zn h
   refine yx hn 0 ?_
   refine yS (.v (.agg (map (int .u32) s133).toArray)) 0 ⟨op_loadA_arr _ _ _ _ underlying222 rfl (sz222.trans (congrArg some (ln_len hv180))) rfl rfl⟩ ?_
   refine yk [2] [28] ?_
   refine yt (2,.arr 222 (map (int .u32) s133)) 0 ⟨op_storeA_arr _ _ _ _ (sz222.trans (congrArg some (ln_len hv182))) rfl rfl (ln_ones (fun _=>rfl) _) ((ln_len (f:=int .u32) hv181).symm.trans (ln_len (f:=int .u32) hv182))⟩ ?_
   refine yee [2] ?_
   refine ht_ret ?_
   obtain ⟨v183, hv183, h⟩:=zn h
   obtain rfl:=zi h
   exact pt_ret hio rfl (.cellR _ _ _ _ underlying222 rfl (sz222.trans (congrArg some (ln_len hv183))) .nil) rfl rfl
  ·rintro u134 hl135 hr136 ⟨s91, s92⟩ rr139 h ho137
   refine yyy hn 1 [0,2,3,7,8] ?_
   refine ht_seq ?_
   refine ht_cond _ rfl (fun hb140 => ?_) (fun hb140 => ?_)
   ·have h:=cond_t hb140 h
    refine ht_skip ?_
    refine pt_then (ht_seq ?_)
    refine ht_block ?_
    refine yyy hn 2 [0,2,3,7,4] ?_
    refine ht_seq ?_
    obtain ⟨v2, hv2, h⟩:=zn h
    refine yx hn 1 ?_
    refine ys 1 ⟨lv hv2⟩ ?_
    refine yee [0,2,3,7,4,5] ?_
    refine ht_seq ?_
    refine yyy hn 1 [0,2,3,7,4,5,12] ?_
    refine ht_loopS h (fun ((s157,s158):Int×Int)=>[(0,.v (.int .u32 divisor)),(2,.arr 222 (map (int .u32) ((List.replicate 16 (0:Int))))),(3,.arr 222 (map (int .u32) s91)),(7,vi s92),(4,vi s92),(5,.v (.int .u32 s157)),(12,vi s158)]) (fun (s166:Int)=>[(0,.v (.int .u32 divisor)),(2,.arr 222 (map (int .u32) ((List.replicate 16 (0:Int))))),(3,.arr 222 (map (int .u32) s91)),(7,vi s92),(4,vi s92),(5,.v (.int .u32 s166))]) ?_ ?_
    ·rintro s166 h
     refine pt_then ?_
     obtain ⟨v46, hv46, h⟩:=zn h
     obtain ⟨v47, hv47, h⟩:=zn h
     refine yx hn 2 ?_
     refine yS (.ptr 3 v46) 0 ⟨op_ix_arr _ _ _ _ 16 3 _ underlying222 sz106 rfl rfl (ix_ok hv46).1 (ix_ok hv46).2 (by decide)⟩ ?_
     refine yk [3] [26,25] ?_
     refine yt (3,.arr 222 (map (int .u32) v47)) 0 ⟨op_store_arr _ _ _ _ _ _ sz106 rfl rfl rfl rfl (set_lt hv47) (set_eq (f:=int .u32) hv47)⟩ ?_
     refine ye [0,2,3,7] ?_
     refine pt_inb ?_
     refine pt_then ?_
     obtain ⟨v48, hv48, h⟩:=zn h
     refine yx hn 0 ?_
     refine ys 0 ⟨lb hv48⟩ ?_
     refine yw [7] 1 ?_
     refine ye [0,2,3,7] ?_
     exact pt_next _ (zi h).symm rfl
    ·rintro u167 hl168 hr169 ⟨s157, s158⟩ rr172 h ho170
     refine yyy hn 1 [0,2,3,7,4,5,12,13] ?_
     refine ht_seq ?_
     refine ht_cond _ rfl (fun hb173 => ?_) (fun hb173 => ?_)
     ·have h:=cond_t hb173 h
      refine ht_skip ?_
      refine pt_then (ht_seq ?_)
      refine ht_joinS h (fun (s175:Int)=>[(0,.v (.int .u32 divisor)),(2,.arr 222 (map (int .u32) ((List.replicate 16 (0:Int))))),(3,.arr 222 (map (int .u32) s91)),(7,vi s92),(4,vi s92),(12,vi s158),(5,.v (.int .u32 s175))]) ?_ ?_
      ·rintro s175 h
       refine pt_then ?_
       obtain ⟨v13, hv13, h⟩:=zn h
       refine yx hn 0 ?_
       refine ys 0 ⟨lb hv13⟩ ?_
       refine yw [12] 1 ?_
       refine ye [0,2,3,7,4,5,12] ?_
       exact pt_next _ (zi h).symm rfl
      ·intro u176 h hl177 hr178
       refine ht_block ?_
       refine ht_seq ?_
       obtain ⟨v4, hv4, h⟩:=zn h
       refine yx hn 1 ?_
       refine ys 1 ⟨lb hv4⟩ ?_
       refine yee [0,2,3,7,4,5,12,6] ?_
       refine ht_seq ?_
       obtain ⟨v5, hv5, h⟩:=zn h
       refine yx hn 1 ?_
       refine ys 0 ⟨lB (shr_ok hv5)⟩ ?_
       refine yw [5] 1 ?_
       refine yee [0,2,3,7,4,12,6,5] ?_
       refine yyy hn 2 [0,2,3,7,4,12,5,19] ?_
       refine ht_cond _ rfl (fun hb179 => ?_) (fun hb179 => ?_)
       ·have h:=cond_t hb179 h
        obtain ⟨v7, hv7, h⟩:=zn h
        refine yx hn 2 ?_
        refine ys 0 ⟨lb hv7⟩ ?_
        refine yw [5] 1 ?_
        refine ye [0,2,3,7,4,12,5] ?_
        refine pt_inb ?_
        exact hl177 _ (zi h).symm
       ·have h:=cond_f hb179 h
        refine ht_skip ?_
        refine pt_inb ?_
        refine pt_pick [0,1,2,3,4,5,6] (by kernel_rfl) (es':=[(_,_),(_,_),(_,_),(_,_),(_,_),(_,_),(_,_)]) rfl ?_
        exact hl177 _ (zi h).symm
     ·have h:=cond_f hb173 h
      refine ht_exit ?_
      refine pt_x_then ?_
      refine pt_x_then ?_
      refine pt_x_in ?_
      refine pt_pick [0,1,2,3,4,5] (by kernel_rfl) (es':=[(_,_),(_,_),(_,_),(_,_),(_,_),(_,_)]) rfl ?_
      exact hl168 _ (ho170 _ (zi h).symm).symm
   ·have h:=cond_f hb140 h
    refine ht_exit ?_
    refine pt_x_then ?_
    refine pt_x_then ?_
    refine pt_x_in ?_
    refine pt_pick [1,2] (by kernel_rfl) (es':=[(_,_),(_,_)]) rfl ?_
    exact hl135 _ (ho137 _ (zi h).symm).symm
theorem ok_sums_sum (b:(List Int)) (width:Int) (divisor:Int) (r:Int) (h:Sh.sums_sum b width divisor=some r):FnOK Tryz.prog 182 [.fl .shr 1 (map (int .u8) b), .v (.int .i64 width), .v (.int .u32 divisor)] (.v (.int .i64 r)):=by
  unfold Sh.sums_sum at h
  refine yO 47 func182 fun g0 hn hio => ?_
  refine yyy hn 1 [0,1,2] ?_
  refine ht_seq ?_
  obtain ⟨v1, hv1, h⟩:=zn h
  obtain ⟨v2, hv2, h⟩:=zn h
  obtain ⟨v3, hv3, h⟩:=zn h
  refine yx hn 1 ?_
  refine ys 0 ⟨lk call202 (ok_sums_table _ _ hv1)⟩ ?_
  refine yS (.arr 222 (map (int .u32) ((List.replicate 16 (0:Int))))) 0 ⟨oA (op_alloc_arr _ za222)⟩ ?_
  refine yk [7] [13] ?_
  refine yt (7,.arr 222 (map (int .u32) v1)) 0 ⟨op_storeA_arr _ _ _ _ (sz222.trans (congrArg some (ln_len hv3))) rfl rfl (ln_ones (fun _=>rfl) _) ((ln_len (f:=int .u32) hv2).symm.trans (ln_len (f:=int .u32) hv3))⟩ ?_
  refine yee [0,1,7] ?_
  refine ht_seq ?_
  obtain ⟨v4, hv4, h⟩:=zn h
  obtain ⟨v5, hv5, h⟩:=zn h
  refine yx hn 1 ?_
  refine ys 0 ⟨lB (shl_ok hv4)⟩ ?_
  refine ys 1 ⟨lb hv5⟩ ?_
  refine yee [0,7,8] ?_
  refine yyy hn 2 [0,7,8,9] ?_
  refine ht_seq ?_
  refine yyy hn 3 [7,8,9,18,19,20] ?_
  refine ht_loopS h (fun ((s25,s26):Int×Int)=>[(7,.arr 222 (map (int .u32) v1)),(8,.v (.int .u32 v5)),(9,.v (.int .u32 s25)),(18,fb b),(19,vi (b.length:Int)),(20,vi s26)]) (fun (s28:Int)=>[(8,.v (.int .u32 v5)),(9,.v (.int .u32 s28))]) ?_ ?_
  ·rintro s28 h
   refine pt_then (ht_seq ?_)
   obtain ⟨v36, hv36, h⟩:=zn h
   obtain ⟨v37, hv37, h⟩:=zn h
   refine yx hn 2 ?_
   refine ys 0 ⟨lb hv36⟩ ?_
   refine ys 1 ⟨lv hv37⟩ ?_
   refine yee [6] ?_
   refine ht_ret ?_
   obtain rfl:=zi h
   exact pt_ret hio rfl (.tmp _ _ .nil) rfl rfl
  ·rintro u29 hl30 hr31 ⟨s25, s26⟩ rr34 h ho32
   refine yyy hn 1 [7,8,9,18,19,20,21] ?_
   refine ht_seq ?_
   refine ht_cond _ rfl (fun hb35 => ?_) (fun hb35 => ?_)
   ·have h:=cond_t hb35 h
    refine ht_skip ?_
    refine pt_then (ht_seq ?_)
    refine ht_block ?_
    refine ht_seq ?_
    obtain ⟨v7, hv7, h⟩:=zn h
    obtain ⟨v8, hv8, h⟩:=zn h
    refine yx hn 0 ?_
    refine ys 0 ⟨li hv7⟩ ?_
    refine ys 1 ⟨ll hv8⟩ ?_
    refine yee [7,8,9,18,19,20,11] ?_
    refine ht_seq ?_
    obtain ⟨v9, hv9, h⟩:=zn h
    obtain ⟨v10, hv10, h⟩:=zn h
    refine yx hn 2 ?_
    refine ys 0 ⟨lv hv9⟩ ?_
    refine ys 0 ⟨lb hv10⟩ ?_
    refine yw [9] 1 ?_
    refine yee [7,8,18,19,20,9] ?_
    refine ht_seq ?_
    obtain ⟨v11, hv11, h⟩:=zn h
    obtain ⟨v12, hv12, h⟩:=zn h
    obtain ⟨v13, hv13, h⟩:=zn h
    obtain ⟨v14, hv14, h⟩:=zn h
    obtain ⟨v15, hv15, h⟩:=zn h
    refine yx hn 1 ?_
    refine ys 1 ⟨lB (shr_ok hv11)⟩ ?_
    refine ys 0 ⟨lB (rem_ok hv12)⟩ ?_
    refine yS (.ptr 7 v13) 0 ⟨op_ix_arr _ _ _ _ 16 7 _ underlying222 sz106 rfl rfl (ix_ok hv13).1 (ix_ok hv13).2 (by decide)⟩ ?_
    refine yS (.v (.int .u32 v14)) 0 ⟨op_load_arr _ _ _ _ _ _ underlying106 rfl rfl rfl (map_get1 hv14)⟩ ?_
    refine ys 0 ⟨lb hv15⟩ ?_
    refine yw [9] 1 ?_
    refine yee [7,8,18,19,20,9] ?_
    obtain ⟨v16, hv16, h⟩:=zn h
    obtain ⟨v17, hv17, h⟩:=zn h
    obtain ⟨v18, hv18, h⟩:=zn h
    obtain ⟨v19, hv19, h⟩:=zn h
    obtain ⟨v20, hv20, h⟩:=zn h
    refine yx hn 1 ?_
    refine ys 1 ⟨lB (shr_ok hv16)⟩ ?_
    refine ys 0 ⟨lB (rem_ok hv17)⟩ ?_
    refine yS (.ptr 7 v18) 0 ⟨op_ix_arr _ _ _ _ 16 7 _ underlying222 sz106 rfl rfl (ix_ok hv18).1 (ix_ok hv18).2 (by decide)⟩ ?_
    refine yS (.v (.int .u32 v19)) 0 ⟨op_load_arr _ _ _ _ _ _ underlying106 rfl rfl rfl (map_get1 hv19)⟩ ?_
    refine ys 0 ⟨lb hv20⟩ ?_
    refine yw [9] 1 ?_
    refine ye [7,8,18,19,20,9] ?_
    refine pt_inb ?_
    refine pt_then ?_
    obtain ⟨v21, hv21, h⟩:=zn h
    refine yx hn 0 ?_
    refine ys 0 ⟨lb hv21⟩ ?_
    refine yw [20] 1 ?_
    refine ye [7,8,18,19,9,20] ?_
    refine pt_pick [0,1,4,2,3,5] (by kernel_rfl) (es':=[(_,_),(_,_),(_,_),(_,_),(_,_),(_,_)]) rfl ?_
    exact pt_next _ (zi h).symm rfl
   ·have h:=cond_f hb35 h
    refine ht_exit ?_
    refine pt_x_then ?_
    refine pt_x_then ?_
    refine pt_x_in ?_
    refine pt_pick [1,2] (by kernel_rfl) (es':=[(_,_),(_,_)]) rfl ?_
    exact hl30 _ (ho32 _ (zi h).symm).symm
theorem ok_sums_Long (b:(List Int)) (r:Int) (h:Sh.sums_Long b=some r):FnOK Tryz.prog 153 [.fl .shr 1 (map (int .u8) b)] (.v (.int .i64 r)):=by
  unfold Sh.sums_Long at h
  refine yO 5 func153 fun g0 hn hio => ?_
  refine yyy hn 1 [0] ?_
  refine ht_seq ?_
  obtain ⟨v1, hv1, h⟩:=zn h
  refine yx hn 1 ?_
  refine ys 1 ⟨lk call182 (ok_sums_sum _ _ _ _ hv1)⟩ ?_
  refine yee [2] ?_
  refine ht_ret ?_
  obtain rfl:=zi h
  exact pt_ret hio rfl (.tmp _ _ .nil) rfl rfl
theorem ok_bundle_Bytes (mx:Int×Nat×Value) (b:T_Bundle) (r:((List Int)×Int)) (h:Sh.bundle_Bytes b=some r):FnG Tryz.prog (GL mx) 130 [.agg [.v (.int .i64 b.Origin), .v (.int .i64 b.Number), .fr .shr true 8 (flatten (map T_Mail.ienc b.Mails))]] (.tup [.mkr 5 (map (int .u8) r.1), .v (.int .i64 r.2)]):=by
  unfold Sh.bundle_Bytes at h
  refine yG 50 func130 fun g0 hn hio => ?_
  refine yyy hn 3 [50,1] ?_
  refine ht_seq ?_
  refine ht_seq ?_
  obtain ⟨v1, hv1, h⟩:=zn h
  refine yx hn 1 ?_
  refine ys 1 ⟨lg call151 (ok_bundle_Check _ _ _ hv1) 50⟩ ?_
  refine yee [50,1,4] ?_
  refine yyy hn 2 [50,1,4,13] ?_
  refine ht_cond _ rfl (fun hb46 => ?_) (fun hb46 => ?_)
  ·have h:=cond_t hb46 h
   refine yyy hn 3 [50,2,3] ?_
   refine ht_ret ?_
   refine pt_pick [1,2] (by kernel_rfl) (es':=[(_,_),(_,_)]) rfl ?_
   refine pt_sub (fs:=[(2,.mkr 5 (map (int .u8) [])),(3,vi v1)]) (.sub _ (sub_nil_mk 5) rfl (.same _ .nil)) ?_
   refine pt_r_then ?_
   obtain rfl:=zi h
   exact pt_ret hio rfl (.tmp _ _ (.tmp _ _ .nil)) rfl rfl
  ·have h:=cond_f hb46 h
   refine ht_skip ?_
   refine pt_then (ht_seq ?_)
   obtain ⟨v3, hv3, h⟩:=zn h
   refine yx hn 2 ?_
   refine ys 0 ⟨lg call152 (ok_bundle_commands _ _ _ hv3) 50⟩ ?_
   refine ya 0 ?_
   refine yee [50,1,5] ?_
   refine yyy hn 1 [50,1,5,6] ?_
   refine ht_seq ?_
   refine ht_seq ?_
   obtain ⟨v4, hv4, h⟩:=zn h
   refine wb [[1],[18,1],[1],[20,1],[1],[22,1],[23],[5],[25,5],[5]] ?_
   refine wN [27,5] ?_
   refine wo [] ⟨lk call153 (ok_sums_Long _ _ hv4)⟩ ?_
   refine wN [19,21,24,26,28] ?_
   refine wS (.fl (.own 3) 1 (map (int .i64) [b.Origin,b.Number,(b.Mails.length:Int),(v3.length:Int),v4])) [[29],[]] ⟨op_buildSlice _ _ 1 (.int .i64 0) (map (int .i64) [b.Origin,b.Number,(b.Mails.length:Int),(v3.length:Int),v4]) [(0,.int .i64 b.Origin),(1,.int .i64 b.Number),(2,.int .i64 (b.Mails.length:Int)),(3,.int .i64 (v3.length:Int)),(4,.int .i64 v4)] underlying31 sz3 zr3 (fun _ V w o a hv hes=>by have e0:=rd_v hv hes (x := .tmp 19) rfl; have e1:=rd_v hv hes (x := .tmp 21) rfl; have e2:=rd_v hv hes (x := .tmp 24) rfl; have e3:=rd_v hv hes (x := .tmp 26) rfl; have e4:=rd_v hv hes (x := .tmp 28) rfl; simp only [List.map_toArray,List.map_cons,List.map_nil,e0,e1,e2,e3,e4]; try rfl) (litfill (by simp [Instr.fill,Value.cells]; rfl) (by simp [List.range,List.range.loop] <;> rfl)) (by simp [Value.oneCell']) rfl (by decide) (by decide) (by decide)⟩ ?_
   refine wee hn [50,5,6,29,30,31] ?_
   refine ht_loopS h (fun ((s51,s52):ByteArray×Int)=>[(50,.glob (GL mx)),(5,.fl (.own 5) 1 (map (int .u8) v3)),(6,vs s51),(29,.fl (.own 3) 1 (map (int .i64) [b.Origin,b.Number,(b.Mails.length:Int),(v3.length:Int),v4])),(30,vi ([b.Origin,b.Number,(b.Mails.length:Int),(v3.length:Int),v4].length:Int)),(31,vi s52)]) (fun (s54:ByteArray)=>[(50,.glob (GL mx)),(5,.fl (.own 5) 1 (map (int .u8) v3)),(6,vs s54)]) ?_ ?_
   ·rintro s54 h
    refine pt_then (ht_seq ?_)
    obtain ⟨v26, hv26, h⟩:=zn h
    obtain ⟨v27, hv27, h⟩:=zn h
    obtain ⟨v44, hv44, h⟩:=zn h
    refine yx hn 1 ?_
    refine ys 0 ⟨lB (cat_ok hv26)⟩ ?_
    refine ys 0 ⟨lU hv27⟩ ?_
    refine ym 0 ?_
    refine yk [43] [44] ?_
    refine ytt (43,.any) (45,.mkr 5 (map (int .u8) v44)) 0 ⟨op_app_mk _ _ _ _ _ el28 rfl rfl rfl rfl hv44 rfl⟩ ?_
    refine ya 0 ?_
    refine yee [50,9] ?_
    refine ht_seq ?_
    refine yxx hn 1 ?_
    refine yS (vi (v44.length:Int)) 1 ⟨op_len_mk _ _ _ underlying28 rfl (List.length_map _)⟩ ?_
    refine yee [50,9,48] ?_
    refine ht_cond _ rfl (fun hb62 => ?_) (fun hb62 => ?_)
    ·have h:=cond_t hb62 h
     refine yyy hn 2 [50,2,3] ?_
     refine ht_ret ?_
     refine pt_pick [1,2] (by kernel_rfl) (es':=[(_,_),(_,_)]) rfl ?_
     refine pt_sub (fs:=[(2,.mkr 5 (map (int .u8) [])),(3,vi 2)]) (.sub _ (sub_nil_mk 5) rfl (.same _ .nil)) ?_
     refine pt_r_then ?_
     obtain rfl:=zi h
     exact pt_ret hio rfl (.tmp _ _ (.tmp _ _ .nil)) rfl rfl
    ·have h:=cond_f hb62 h
     refine ht_skip ?_
     refine pt_then ?_
     refine yxx hn 0 ?_
     refine ym 0 ?_
     refine ya 1 ?_
     refine yee [50,2,3] ?_
     refine ht_ret ?_
     refine pt_pick [1,2] (by kernel_rfl) (es':=[(_,_),(_,_)]) rfl ?_
     obtain rfl:=zi h
     exact pt_ret hio rfl (.tmp _ _ (.tmp _ _ .nil)) rfl rfl
   ·rintro u55 hl56 hr57 ⟨s51, s52⟩ rr60 h ho58
    refine yyy hn 1 [50,5,6,29,30,31,32] ?_
    refine ht_seq ?_
    refine ht_cond _ rfl (fun hb61 => ?_) (fun hb61 => ?_)
    ·have h:=cond_t hb61 h
     refine ht_skip ?_
     refine pt_then (ht_seq ?_)
     refine ht_block ?_
     refine ht_seq ?_
     obtain ⟨v6, hv6, h⟩:=zn h
     obtain ⟨v7, hv7, h⟩:=zn h
     refine yx hn 0 ?_
     refine ys 0 ⟨li hv6⟩ ?_
     refine ys 1 ⟨ll hv7⟩ ?_
     refine yee [50,5,6,29,30,31,8] ?_
     obtain ⟨v8, hv8, h⟩:=zn h
     obtain ⟨v9, hv9, h⟩:=zn h
     obtain ⟨v10, hv10, h⟩:=zn h
     refine yx hn 2 ?_
     refine ys 0 ⟨lg call150 (ok_strconv_Itoa _ _ _ hv8) 50⟩ ?_
     refine ys 0 ⟨lB (cat_ok hv9)⟩ ?_
     refine ys 0 ⟨lB (cat_ok hv10)⟩ ?_
     refine yw [6] 1 ?_
     refine ye [50,5,29,30,31,6] ?_
     refine pt_inb ?_
     refine pt_then ?_
     obtain ⟨v11, hv11, h⟩:=zn h
     refine yx hn 0 ?_
     refine ys 0 ⟨lb hv11⟩ ?_
     refine yw [31] 1 ?_
     refine ye [50,5,29,30,6,31] ?_
     refine pt_pick [0,1,4,2,3,5] (by kernel_rfl) (es':=[(_,_),(_,_),(_,_),(_,_),(_,_),(_,_)]) rfl ?_
     exact pt_next _ (zi h).symm rfl
    ·have h:=cond_f hb61 h
     refine ht_exit ?_
     refine pt_x_then ?_
     refine pt_x_then ?_
     refine pt_x_in ?_
     refine pt_pick [0,1,2] (by kernel_rfl) (es':=[(_,_),(_,_),(_,_)]) rfl ?_
     exact hl56 _ (ho58 _ (zi h).symm).symm
end Go.Proofs.YtjnnkhmhjcjhdaaGreatDoor
