/-
  The model's runs are what is told in Lean.
-/
import Derived.Test.YtglabbpbianmnaaGreatDoorProg
import Derived.KernelRfl
import Derived.Test.YtglabbpbianmnaaGreatDoorShelf
import Derived.Test.YtglabbpbianmnaaGreatDoorIdx
import Derived.Test.YtglabbpbianmnaaGreatDoorBH
import Derived.Test.YtglabbpbianmnaaGreatDoorC1
import Derived.Test.YtglabbpbianmnaaGreatDoorSh
set_option linter.unusedVariables false
set_option linter.unusedSimpArgs false
set_option maxHeartbeats 1000000
namespace Go.Proofs.YtglabbpbianmnaaGreatDoor
open Go.Abs Go.Abs.Sh Tryz
open List (map flatten)
open Value (int)
def GL (mx:Int):List (Nat×List Value):=[(0, [.int .i64 mx]), (1, (List.map (Value.int .u64) strconv_pow10)), (6, (List.map (Value.int .u8) utf8_first)), (7, (List.map (Value.int .u8) utf8_accept))]
theorem gl_mem0 (mx:Int):(0, ([.int .i64 mx]:List Value))∈GL mx := .head _
theorem gl_mem1 (mx:Int):(1, ((List.map (Value.int .u64) strconv_pow10):List Value))∈GL mx := .tail _ (.head _)
theorem gl_mem6 (mx:Int):(6, ((List.map (Value.int .u8) utf8_first):List Value))∈GL mx := .tail _ (.tail _ (.head _))
theorem gl_mem7 (mx:Int):(7, ((List.map (Value.int .u8) utf8_accept):List Value))∈GL mx := .tail _ (.tail _ (.tail _ (.head _)))
instance iUD3:UD Tryz.prog 3 (.int .i64):=⟨Tryz.underlying3⟩
instance iUD51:UD Tryz.prog 51 (.int .u64):=⟨Tryz.underlying51⟩
theorem fs43:∀ fs, Tryz.prog.underlying 43=some (.struct fs)→fs.toList.map (fun f=>(Tryz.prog.info? f.type).map (·.size))=([1, 1, 1]:List Nat).map some:=by
  intro fs h
  rw [Tryz.underlying43] at h
  cases h
  kernel_rfl
theorem zr43:(Tryz.prog.info? 43).bind (·.zero)=some (.agg #[.bool false, .string ByteArray.empty, .string ByteArray.empty]):=by kernel_rfl
theorem sz43:(Tryz.prog.info? 43).map (·.size)=some 3:=by kernel_rfl
theorem fs46:∀ fs, Tryz.prog.underlying 46=some (.struct fs)→fs.toList.map (fun f=>(Tryz.prog.info? f.type).map (·.size))=([3, 1, 1, 1, 1, 1]:List Nat).map some:=by
  intro fs h
  rw [Tryz.underlying46] at h
  cases h
  kernel_rfl
theorem zr46:(Tryz.prog.info? 46).bind (·.zero)=some (.agg #[.bool false, .string ByteArray.empty, .string ByteArray.empty, .slice none 0 0, .slice none 0 0, .bool false, .string ByteArray.empty, .int .i64 0]):=by kernel_rfl
theorem sz46:(Tryz.prog.info? 46).map (·.size)=some 8:=by kernel_rfl
def oe46 (x:T_Mail):List AV:=[.v (.bool x.From.Null), .v (.string x.From.Local), .v (.string x.From.Domain), .fl (.own 43) 3 (List.flatten (List.map T_Path.enc x.To)), .fl (.own 5) 1 (List.map (Value.int .u8) x.Body), .v (.bool x.Quiet), .v (.string x.Helo), .v (.int .i64 x.At)]
theorem oe46_l (x:T_Mail):(oe46 x).length=8:=rfl
theorem oe46_i (x:T_Mail):AIs true ((oe46 x).map shrA) (T_Mail.ienc x) := .cons (.v _) (.cons (.v _) (.cons (.v _) (.cons (.shr _ _ rfl rfl) (.cons (.shr _ _ rfl rfl) (.cons (.v _) (.cons (.v _) (.cons (.v _) (.nil))))))))
theorem fs24:∀ fs, Tryz.prog.underlying 24=some (.struct fs)→fs.toList.map (fun f=>(Tryz.prog.info? f.type).map (·.size))=([1, 1, 1]:List Nat).map some:=by
  intro fs h
  rw [Tryz.underlying24] at h
  cases h
  kernel_rfl
theorem zr24:(Tryz.prog.info? 24).bind (·.zero)=some (.agg #[.int .i64 0, .int .i64 0, .slice none 0 0]):=by kernel_rfl
theorem sz24:(Tryz.prog.info? 24).map (·.size)=some 3:=by kernel_rfl
theorem sz3:(Tryz.prog.info? 3).map (·.size)=some 1:=by kernel_rfl
instance iFO24_0:FO Tryz.prog 24 0 0:=⟨by kernel_rfl⟩
instance iAG3:AS Tryz.prog 3:=⟨by kernel_rfl⟩
instance iFO24_1:FO Tryz.prog 24 1 1:=⟨by kernel_rfl⟩
theorem sz22:(Tryz.prog.info? 22).map (·.size)=some 1:=by kernel_rfl
instance iFO24_2:FO Tryz.prog 24 2 2:=⟨by kernel_rfl⟩
instance iAG22:AS Tryz.prog 22:=⟨by kernel_rfl⟩
instance iUD22:UD Tryz.prog 22 (.slice 46):=⟨Tryz.underlying22⟩
instance iLiT_Mail:LenI T_Mail.ienc 8:=⟨T_Mail.ilen⟩
instance iSZ46:SZ Tryz.prog 46 8:=⟨by kernel_rfl⟩
instance iAG46:AA Tryz.prog 46 8:=⟨by kernel_rfl⟩
instance iFO43_0:FO Tryz.prog 43 0 0:=⟨by kernel_rfl⟩
instance iAG4:AS Tryz.prog 4:=⟨by kernel_rfl⟩
theorem sz9:(Tryz.prog.info? 9).map (·.size)=some 1:=by kernel_rfl
instance iFO43_1:FO Tryz.prog 43 1 1:=⟨by kernel_rfl⟩
instance iAG9:AS Tryz.prog 9:=⟨by kernel_rfl⟩
instance iFO43_2:FO Tryz.prog 43 2 2:=⟨by kernel_rfl⟩
instance iUD9:UD Tryz.prog 9 .string:=⟨Tryz.underlying9⟩
instance iFO46_0:FO Tryz.prog 46 0 0:=⟨by kernel_rfl⟩
instance iAG43:AA Tryz.prog 43 3:=⟨by kernel_rfl⟩
theorem sz44:(Tryz.prog.info? 44).map (·.size)=some 1:=by kernel_rfl
instance iFO46_1:FO Tryz.prog 46 1 3:=⟨by kernel_rfl⟩
instance iAG44:AS Tryz.prog 44:=⟨by kernel_rfl⟩
instance iUD44:UD Tryz.prog 44 (.slice 43):=⟨Tryz.underlying44⟩
instance iLT_Path:LenE T_Path.enc 3:=⟨T_Path.len⟩
theorem sz25:(Tryz.prog.info? 25).map (·.size)=some 1:=by kernel_rfl
instance iUD25:UD Tryz.prog 25 (.slice 5):=⟨Tryz.underlying25⟩
theorem sz5:(Tryz.prog.info? 5).map (·.size)=some 1:=by kernel_rfl
instance iSZ5:SZ Tryz.prog 5 1:=⟨by kernel_rfl⟩
instance iAG5:AS Tryz.prog 5:=⟨by kernel_rfl⟩
instance iFO46_2:FO Tryz.prog 46 2 4:=⟨by kernel_rfl⟩
instance iAG25:AS Tryz.prog 25:=⟨by kernel_rfl⟩
instance iSZ43:SZ Tryz.prog 43 3:=⟨by kernel_rfl⟩
instance iFO46_3:FO Tryz.prog 46 3 5:=⟨by kernel_rfl⟩
instance iFO46_4:FO Tryz.prog 46 4 6:=⟨by kernel_rfl⟩
instance iFO46_5:FO Tryz.prog 46 5 7:=⟨by kernel_rfl⟩
instance iAG24:AA Tryz.prog 24 3:=⟨by kernel_rfl⟩
theorem el25:ElemT Tryz.prog 25 5 1 1:=⟨⟨Tryz.t5, .int .u8 0, Tryz.underlying25, by kernel_rfl, by kernel_rfl, by kernel_rfl, by kernel_rfl, by decide, by kernel_rfl⟩⟩
theorem zr5:(Tryz.prog.info? 5).bind (·.zero)=some (.int .u8 0):=by kernel_rfl
instance iUD5:UD Tryz.prog 5 (.int .u8):=⟨Tryz.underlying5⟩
theorem zr4:(Tryz.prog.info? 4).bind (·.zero)=some (.bool false):=by kernel_rfl
instance iUD21:UD Tryz.prog 21 (.int .i32):=⟨Tryz.underlying21⟩
instance iAG125:AS Tryz.prog 125:=⟨by kernel_rfl⟩
theorem zr29:(Tryz.prog.info? 29).bind (·.zero)=some (.int .i64 0):=by kernel_rfl
theorem zr3:(Tryz.prog.info? 3).bind (·.zero)=some (.int .i64 0):=by kernel_rfl
instance iAG29:AS Tryz.prog 29:=⟨by kernel_rfl⟩
theorem zr25:(Tryz.prog.info? 25).bind (·.zero)=some (.slice none 0 0):=by kernel_rfl
theorem za109:((Tryz.prog.info? 109).bind (·.zero)).map (·.cells.toList)=some (List.map (Value.int .u32) (List.replicate 16 (0:Int))):=by kernel_rfl
instance iUD86:UD Tryz.prog 86 (.int .u32):=⟨Tryz.underlying86⟩
theorem sz86:(Tryz.prog.info? 86).map (·.size)=some 1:=by kernel_rfl
theorem sz109:(Tryz.prog.info? 109).map (·.size)=some 16:=by kernel_rfl
instance iUD61:UD Tryz.prog 61 (.slice 3):=⟨Tryz.underlying61⟩
instance iSZ3:SZ Tryz.prog 3 1:=⟨by kernel_rfl⟩
theorem zr66:(Tryz.prog.info? 66).bind (·.zero)=some (.agg #[.int .i64 0, .int .i64 0, .int .i64 0, .int .i64 0]):=by kernel_rfl
theorem el57:ElemT Tryz.prog 57 9 1 16:=⟨⟨Tryz.t9, .string ByteArray.empty, Tryz.underlying57, by kernel_rfl, by kernel_rfl, by kernel_rfl, by kernel_rfl, by decide, by kernel_rfl⟩⟩
theorem zr9:(Tryz.prog.info? 9).bind (·.zero)=some (.string ByteArray.empty):=by kernel_rfl
instance iUD57:UD Tryz.prog 57 (.slice 9):=⟨Tryz.underlying57⟩
instance iSZ9:SZ Tryz.prog 9 1:=⟨by kernel_rfl⟩
theorem fs66:∀ fs, Tryz.prog.underlying 66=some (.struct fs)→fs.toList.map (fun f=>(Tryz.prog.info? f.type).map (·.size))=([1, 1, 1, 1]:List Nat).map some:=by
  intro fs h
  rw [Tryz.underlying66] at h
  cases h
  kernel_rfl
theorem sz66:(Tryz.prog.info? 66).map (·.size)=some 4:=by kernel_rfl
theorem za90:((Tryz.prog.info? 90).bind (·.zero)).map (·.cells.toList)=some (List.map (Value.int .i64) (List.replicate 5 (0:Int))):=by kernel_rfl
instance iAG66:AA Tryz.prog 66 4:=⟨by kernel_rfl⟩
instance iFO66_0:FO Tryz.prog 66 0 0:=⟨by kernel_rfl⟩
instance iFO66_2:FO Tryz.prog 66 2 2:=⟨by kernel_rfl⟩
instance iFO66_3:FO Tryz.prog 66 3 3:=⟨by kernel_rfl⟩
theorem el44:ElemT Tryz.prog 44 43 3 40:=⟨⟨Tryz.t43, .agg #[.bool false, .string ByteArray.empty, .string ByteArray.empty], Tryz.underlying44, by kernel_rfl, by kernel_rfl, by kernel_rfl, by kernel_rfl, by decide, by kernel_rfl⟩⟩
theorem el22:ElemT Tryz.prog 22 46 8 120:=⟨⟨Tryz.t46, .agg #[.bool false, .string ByteArray.empty, .string ByteArray.empty, .slice none 0 0, .slice none 0 0, .bool false, .string ByteArray.empty, .int .i64 0], Tryz.underlying22, by kernel_rfl, by kernel_rfl, by kernel_rfl, by kernel_rfl, by decide, by kernel_rfl⟩⟩
instance iFO66_1:FO Tryz.prog 66 1 1:=⟨by kernel_rfl⟩
abbrev T_Mail.c (x:T_Mail) (r:List AV):List AV:=vb x.From.Null::vs x.From.Local::vs x.From.Domain :: .fl .shr 3 (flatten (map T_Path.enc x.To))::fb x.Body::vb x.Quiet::vs x.Helo::vi x.At::r
theorem ok_wherryref11_in (n:Int) (lo:Int) (hi:Int) (r:Bool) (h:Sh.wherryref11_in n lo hi=some r):FnOK Tryz.prog 43 [.v (.int .i64 n), .v (.int .i64 lo), .v (.int .i64 hi)] (.v (.bool r)):=by
  unfold Sh.wherryref11_in at h
  refine yO 15 func43 fun g0 hn hio => ?_
  refine yyy hn 1 [0,1,2] ?_
  refine ht_seq ?_
  refine ht_joinS h (fun (s1:Bool)=>[(6,vb s1)]) ?_ ?_
  ·rintro s1 h
   refine pt_then (ht_ret ?_)
   obtain rfl:=zi h
   exact pt_ret hio rfl (.tmp _ _ .nil) rfl rfl
  ·intro u2 h hl3 hr4
   refine cond_some h (fun hg1_3 h => ?_) (fun hg1_3 h => ?_)
   ·refine yx hn 4 ?_
    refine yd hg1_3 5 ?_
    refine ye [6] ?_
    exact hl3 _ (zi h).symm
   ·refine yx hn 4 ?_
    refine yd hg1_3 5 ?_
    refine ye [6] ?_
    exact hl3 _ (zi h).symm
theorem ok_wherryref11_letter (c:Int) (r:Bool) (h:Sh.wherryref11_letter c=some r):FnOK Tryz.prog 107 [.v (.int .u8 c)] (.v (.bool r)):=by
  unfold Sh.wherryref11_letter at h
  refine yO 17 func107 fun g0 hn hio => ?_
  refine yyy hn 1 [0] ?_
  refine ht_seq ?_
  refine ht_joinS h (fun (s1:Bool)=>[(2,vb s1)]) ?_ ?_
  ·rintro s1 h
   refine pt_then (ht_ret ?_)
   obtain rfl:=zi h
   exact pt_ret hio rfl (.tmp _ _ .nil) rfl rfl
  ·intro u2 h hl3 hr4
   refine cond_some h (fun hg1_2 h => ?_) (fun hg1_2 h => ?_)
   ·refine cond_some h (fun hg1_6 h => ?_) (fun hg1_6 h => ?_)
    ·refine yx hn 3 ?_
     refine yd hg1_2 4 ?_
     refine yd hg1_6 8 ?_
     refine ye [2] ?_
     exact hl3 _ (zi h).symm
    ·refine cond_some h (fun hg1_9 h => ?_) (fun hg1_9 h => ?_)
     ·refine yx hn 3 ?_
      refine yd hg1_2 4 ?_
      refine yd hg1_6 3 ?_
      refine yd hg1_9 5 ?_
      refine ye [2] ?_
      exact hl3 _ (zi h).symm
     ·refine yx hn 3 ?_
      refine yd hg1_2 4 ?_
      refine yd hg1_6 3 ?_
      refine yd hg1_9 5 ?_
      refine ye [2] ?_
      exact hl3 _ (zi h).symm
   ·refine cond_some h (fun hg1_9 h => ?_) (fun hg1_9 h => ?_)
    ·refine yx hn 3 ?_
     refine yd hg1_2 7 ?_
     refine yd hg1_9 5 ?_
     refine ye [2] ?_
     exact hl3 _ (zi h).symm
    ·refine yx hn 3 ?_
     refine yd hg1_2 7 ?_
     refine yd hg1_9 5 ?_
     refine ye [2] ?_
     exact hl3 _ (zi h).symm
theorem ok_wherryref11_digit (c:Int) (r:Bool) (h:Sh.wherryref11_digit c=some r):FnOK Tryz.prog 60 [.v (.int .u8 c)] (.v (.bool r)):=by
  unfold Sh.wherryref11_digit at h
  refine yO 9 func60 fun g0 hn hio => ?_
  refine yyy hn 1 [0] ?_
  refine ht_seq ?_
  refine ht_joinS h (fun (s1:Bool)=>[(2,vb s1)]) ?_ ?_
  ·rintro s1 h
   refine pt_then (ht_ret ?_)
   obtain rfl:=zi h
   exact pt_ret hio rfl (.tmp _ _ .nil) rfl rfl
  ·intro u2 h hl3 hr4
   refine cond_some h (fun hg1_2 h => ?_) (fun hg1_2 h => ?_)
   ·refine yx hn 3 ?_
    refine yd hg1_2 4 ?_
    refine ye [2] ?_
    exact hl3 _ (zi h).symm
   ·refine yx hn 3 ?_
    refine yd hg1_2 4 ?_
    refine ye [2] ?_
    exact hl3 _ (zi h).symm
theorem ok_wherryref11_sign (c:Int) (r:Bool) (h:Sh.wherryref11_sign c=some r):FnOK Tryz.prog 106 [.v (.int .u8 c)] (.v (.bool r)):=by
  unfold Sh.wherryref11_sign at h
  refine yO 24 func106 fun g0 hn hio => ?_
  refine yyy hn 1 [0] ?_
  refine ht_seq ?_
  refine ht_seq ?_
  refine ht_joinS h (fun (s3:Bool)=>[(0,.v (.int .u8 c)),(10,vb s3)]) ?_ ?_
  ·rintro s3 h
   refine pt_then ?_
   refine ht_cond _ rfl (fun hb7 => ?_) (fun hb7 => ?_)
   ·have h:=cond_t hb7 h
    refine yyy hn 1 [2] ?_
    refine ht_ret ?_
    refine pt_r_then ?_
    obtain rfl:=zi h
    exact pt_ret hio rfl (.tmp _ _ .nil) rfl rfl
   ·have h:=cond_f hb7 h
    refine ht_skip ?_
    refine pt_then ?_
    refine yyy hn 1 [0,3] ?_
    refine ht_seq ?_
    refine yyy hn 1 [0,3,4] ?_
    refine ht_loopS h (fun (s15:Int)=>[(0,.v (.int .u8 c)),(3,vs (⟨#[33,35,36,37,38,39,42,43,45,47,61,63,94,95,123,124,125,126]⟩:ByteArray)),(4,vi s15)]) (fun (():Unit)=>[(0,.v (.int .u8 c))]) ?_ ?_
    ·rintro ⟨⟩ h
     refine pt_then ?_
     refine yyy hn 3 [2] ?_
     refine ht_ret ?_
     obtain rfl:=zi h
     exact pt_ret hio rfl (.tmp _ _ .nil) rfl rfl
    ·rintro u18 hl19 hr20 s15 rr23 h ho21
     refine ht_seq ?_
     refine yyy hn 4 [0,3,4,14] ?_
     refine ht_cond _ rfl (fun hb24 => ?_) (fun hb24 => ?_)
     ·have h:=cond_t hb24 h
      refine ht_skip ?_
      refine pt_then (ht_seq ?_)
      refine ht_block ?_
      refine ht_seq ?_
      obtain ⟨v9, hv9, h⟩:=zn h
      refine yx hn 2 ?_
      refine ys 2 ⟨lh hv9⟩ ?_
      refine yee [0,3,4,21] ?_
      refine ht_cond _ rfl (fun hb25 => ?_) (fun hb25 => ?_)
      ·have h:=cond_t hb25 h
       refine yyy hn 1 [2] ?_
       refine ht_ret ?_
       refine pt_r_in ?_
       refine pt_r_then ?_
       refine pt_r_then ?_
       refine pt_r_in ?_
       refine pt_r_then ?_
       have h:=hr20 _ (ho21 _ (zi h).symm).symm
       obtain rfl:=zi h
       exact pt_ret hio rfl (.tmp _ _ .nil) rfl rfl
      ·have h:=cond_f hb25 h
       refine ht_skip ?_
       refine pt_inb ?_
       refine pt_then ?_
       obtain ⟨v11, hv11, h⟩:=zn h
       refine yx hn 1 ?_
       refine ys 0 ⟨lb hv11⟩ ?_
       refine yw [4] 1 ?_
       refine ye [0,3,4] ?_
       exact pt_next _ (zi h).symm rfl
     ·have h:=cond_f hb24 h
      refine ht_exit ?_
      refine pt_x_then ?_
      refine pt_x_then ?_
      refine pt_x_in ?_
      refine pt_pick [0] (by kernel_rfl) (es':=[(_,_)]) rfl ?_
      exact hl19 _ (ho21 _ (zi h).symm).symm
  ·intro u4 h hl5 hr6
   obtain ⟨v1, hv1, h⟩:=zn h
   refine cond_some h (fun hg1_2 h => ?_) (fun hg1_2 h => ?_)
   ·refine yx hn 1 ?_
    refine ys 1 ⟨lk call107 (ok_wherryref11_letter _ _ hv1)⟩ ?_
    refine yd hg1_2 3 ?_
    refine ye [0,10] ?_
    exact hl5 _ (zi h).symm
   ·obtain ⟨v2, hv2, h⟩:=zn h
    refine yx hn 1 ?_
    refine ys 1 ⟨lk call107 (ok_wherryref11_letter _ _ hv1)⟩ ?_
    refine yd hg1_2 1 ?_
    refine ys 1 ⟨lk call60 (ok_wherryref11_digit _ _ hv2)⟩ ?_
    refine ye [0,10] ?_
    exact hl5 _ (zi h).symm
theorem ok_wherryref11_Local (s:ByteArray) (r:Bool) (h:Sh.wherryref11_Local s=some r):FnOK Tryz.prog 85 [.v (.string s)] (.v (.bool r)):=by
  unfold Sh.wherryref11_Local at h
  refine yO 51 func85 fun g0 hn hio => ?_
  refine yyy hn 1 [0] ?_
  refine ht_seq ?_
  refine ht_seq ?_
  refine ht_joinS h (fun (s5:Bool)=>[(0,vs s),(20,vb s5)]) ?_ ?_
  ·rintro s5 h
   refine pt_then ?_
   refine ht_cond _ rfl (fun hb9 => ?_) (fun hb9 => ?_)
   ·have h:=cond_t hb9 h
    refine yyy hn 1 [2] ?_
    refine ht_ret ?_
    refine pt_r_then ?_
    obtain rfl:=zi h
    exact pt_ret hio rfl (.tmp _ _ .nil) rfl rfl
   ·have h:=cond_f hb9 h
    refine ht_skip ?_
    refine pt_then (ht_seq ?_)
    refine yyy hn 1 [0,3] ?_
    refine ht_loopS h (fun (s33:Int)=>[(0,vs s),(3,vi s33)]) (fun (():Unit)=>[]) ?_ ?_
    ·rintro ⟨⟩ h
     refine pt_then ?_
     refine yyy hn 1 [2] ?_
     refine ht_ret ?_
     obtain rfl:=zi h
     exact pt_ret hio rfl (.tmp _ _ .nil) rfl rfl
    ·rintro u40 hl41 hr42 s33 rr45 h ho43
     refine ht_seq ?_
     refine yyy hn 4 [0,3,24] ?_
     refine ht_cond _ rfl (fun hb46 => ?_) (fun hb46 => ?_)
     ·have h:=cond_t hb46 h
      refine ht_skip ?_
      refine pt_then (ht_seq ?_)
      refine ht_block ?_
      refine ht_seq ?_
      refine ht_joinS h (fun (s47:Bool)=>[(0,vs s),(3,vi s33),(50,vb s47)]) ?_ ?_
      ·rintro s47 h
       refine pt_then ?_
       refine ht_cond _ rfl (fun hb51 => ?_) (fun hb51 => ?_)
       ·have h:=cond_t hb51 h
        refine yyy hn 1 [2] ?_
        refine ht_ret ?_
        refine pt_r_in ?_
        refine pt_r_then ?_
        refine pt_r_then ?_
        refine pt_r_in ?_
        refine pt_r_then ?_
        have h:=hr42 _ (ho43 _ (zi h).symm).symm
        obtain rfl:=zi h
        exact pt_ret hio rfl (.tmp _ _ .nil) rfl rfl
       ·have h:=cond_f hb51 h
        refine ht_skip ?_
        refine pt_inb ?_
        refine pt_then ?_
        obtain ⟨v25, hv25, h⟩:=zn h
        refine yx hn 1 ?_
        refine ys 0 ⟨lb hv25⟩ ?_
        refine yw [3] 1 ?_
        refine ye [0,3] ?_
        exact pt_next _ (zi h).symm rfl
      ·intro u48 h hl49 hr50
       obtain ⟨v11, hv11, h⟩:=zn h
       refine cond_some h (fun hg6_4 h => ?_) (fun hg6_4 h => ?_)
       ·obtain ⟨v12, hv12, h⟩:=zn h
        obtain ⟨v13, hv13, h⟩:=zn h
        refine cond_some h (fun hg6_11 h => ?_) (fun hg6_11 h => ?_)
        ·refine yx hn 2 ?_
         refine ys 2 ⟨lh hv11⟩ ?_
         refine yd hg6_4 2 ?_
         refine ys 0 ⟨lb hv12⟩ ?_
         refine ys 3 ⟨lh hv13⟩ ?_
         refine yd hg6_11 12 ?_
         refine ye [0,3,50] ?_
         exact hl49 _ (zi h).symm
        ·obtain ⟨v14, hv14, h⟩:=zn h
         refine cond_some h (fun hg6_16 h => ?_) (fun hg6_16 h => ?_)
         ·obtain ⟨v15, hv15, h⟩:=zn h
          obtain ⟨v16, hv16, h⟩:=zn h
          refine yx hn 2 ?_
          refine ys 2 ⟨lh hv11⟩ ?_
          refine yd hg6_4 2 ?_
          refine ys 0 ⟨lb hv12⟩ ?_
          refine ys 3 ⟨lh hv13⟩ ?_
          refine yd hg6_11 2 ?_
          refine ys 2 ⟨lh hv14⟩ ?_
          refine yd hg6_16 2 ?_
          refine ys 0 ⟨lh hv15⟩ ?_
          refine ys 3 ⟨lk call106 (ok_wherryref11_sign _ _ hv16)⟩ ?_
          refine ye [0,3,50] ?_
          exact hl49 _ (zi h).symm
         ·refine yx hn 2 ?_
          refine ys 2 ⟨lh hv11⟩ ?_
          refine yd hg6_4 2 ?_
          refine ys 0 ⟨lb hv12⟩ ?_
          refine ys 3 ⟨lh hv13⟩ ?_
          refine yd hg6_11 2 ?_
          refine ys 2 ⟨lh hv14⟩ ?_
          refine yd hg6_16 7 ?_
          refine ye [0,3,50] ?_
          exact hl49 _ (zi h).symm
       ·obtain ⟨v17, hv17, h⟩:=zn h
        refine cond_some h (fun hg6_16 h => ?_) (fun hg6_16 h => ?_)
        ·obtain ⟨v18, hv18, h⟩:=zn h
         obtain ⟨v19, hv19, h⟩:=zn h
         refine yx hn 2 ?_
         refine ys 2 ⟨lh hv11⟩ ?_
         refine yd hg6_4 9 ?_
         refine ys 2 ⟨lh hv17⟩ ?_
         refine yd hg6_16 2 ?_
         refine ys 0 ⟨lh hv18⟩ ?_
         refine ys 3 ⟨lk call106 (ok_wherryref11_sign _ _ hv19)⟩ ?_
         refine ye [0,3,50] ?_
         exact hl49 _ (zi h).symm
        ·refine yx hn 2 ?_
         refine ys 2 ⟨lh hv11⟩ ?_
         refine yd hg6_4 9 ?_
         refine ys 2 ⟨lh hv17⟩ ?_
         refine yd hg6_16 7 ?_
         refine ye [0,3,50] ?_
         exact hl49 _ (zi h).symm
     ·have h:=cond_f hb46 h
      refine ht_exit ?_
      refine pt_x_then ?_
      refine pt_x_then ?_
      refine pt_x_in ?_
      refine pt_pick [] (by kernel_rfl) (es':=[]) rfl ?_
      exact hl41 _ (ho43 _ (zi h).symm).symm
  ·intro u6 h hl7 hr8
   obtain ⟨v1, hv1, h⟩:=zn h
   refine cond_some h (fun hg1_4 h => ?_) (fun hg1_4 h => ?_)
   ·refine yx hn 2 ?_
    refine ys 2 ⟨lk call43 (ok_wherryref11_in _ _ _ _ hv1)⟩ ?_
    refine yd hg1_4 12 ?_
    refine ye [0,20] ?_
    exact hl7 _ (zi h).symm
   ·obtain ⟨v2, hv2, h⟩:=zn h
    refine cond_some h (fun hg1_9 h => ?_) (fun hg1_9 h => ?_)
    ·refine yx hn 2 ?_
     refine ys 2 ⟨lk call43 (ok_wherryref11_in _ _ _ _ hv1)⟩ ?_
     refine yd hg1_4 1 ?_
     refine ys 3 ⟨lh hv2⟩ ?_
     refine yd hg1_9 7 ?_
     refine ye [0,20] ?_
     exact hl7 _ (zi h).symm
    ·obtain ⟨v3, hv3, h⟩:=zn h
     obtain ⟨v4, hv4, h⟩:=zn h
     refine yx hn 2 ?_
     refine ys 2 ⟨lk call43 (ok_wherryref11_in _ _ _ _ hv1)⟩ ?_
     refine yd hg1_4 1 ?_
     refine ys 3 ⟨lh hv2⟩ ?_
     refine yd hg1_9 3 ?_
     refine ys 0 ⟨lb hv3⟩ ?_
     refine ys 2 ⟨lh hv4⟩ ?_
     refine ye [0,20] ?_
     exact hl7 _ (zi h).symm
theorem ok_wherryref11_Domain (s:ByteArray) (r:Bool) (h:Sh.wherryref11_Domain s=some r):FnOK Tryz.prog 86 [.v (.string s)] (.v (.bool r)):=by
  unfold Sh.wherryref11_Domain at h
  refine yO 63 func86 fun g0 hn hio => ?_
  refine yyy hn 1 [0] ?_
  refine ht_seq ?_
  refine ht_seq ?_
  obtain ⟨v1, hv1, h⟩:=zn h
  refine yx hn 2 ?_
  refine ys 1 ⟨lk call43 (ok_wherryref11_in _ _ _ _ hv1)⟩ ?_
  refine yee [0,8] ?_
  refine ht_cond _ rfl (fun hb2 => ?_) (fun hb2 => ?_)
  ·have h:=cond_t hb2 h
   refine yyy hn 1 [2] ?_
   refine ht_ret ?_
   refine pt_r_then ?_
   obtain rfl:=zi h
   exact pt_ret hio rfl (.tmp _ _ .nil) rfl rfl
  ·have h:=cond_f hb2 h
   refine ht_skip ?_
   refine pt_then ?_
   refine yyy hn 1 [0,3] ?_
   refine ht_seq ?_
   refine yyy hn 1 [0,3,4] ?_
   refine ht_loopS h (fun ((s88,s89):Int×Int)=>[(0,vs s),(3,vi s88),(4,vi s89)]) (fun (():Unit)=>[]) ?_ ?_
   ·rintro ⟨⟩ h
    refine pt_then ?_
    refine yyy hn 1 [2] ?_
    refine ht_ret ?_
    obtain rfl:=zi h
    exact pt_ret hio rfl (.tmp _ _ .nil) rfl rfl
   ·rintro u125 hl126 hr127 ⟨s88, s89⟩ rr130 h ho128
    refine ht_seq ?_
    refine yyy hn 4 [0,3,4,12] ?_
    refine ht_cond _ rfl (fun hb131 => ?_) (fun hb131 => ?_)
    ·have h:=cond_t hb131 h
     refine ht_skip ?_
     refine pt_then (ht_seq ?_)
     refine ht_joinS h (fun (s147:Int)=>[(0,vs s),(3,vi s147),(4,vi s89)]) ?_ ?_
     ·rintro s147 h
      refine pt_then ?_
      obtain ⟨v50, hv50, h⟩:=zn h
      refine yx hn 1 ?_
      refine ys 0 ⟨lb hv50⟩ ?_
      refine yw [4] 1 ?_
      refine ye [0,3,4] ?_
      exact pt_next _ (zi h).symm rfl
     ·intro u148 h hl149 hr150
      refine ht_block ?_
      refine ht_seq ?_
      refine ht_seq ?_
      refine ht_joinS h (fun (s151:Bool)=>[(0,vs s),(3,vi s88),(4,vi s89),(24,vb s151)]) ?_ ?_
      ·rintro s151 h
       refine pt_then ?_
       refine ht_cond _ rfl (fun hb155 => ?_) (fun hb155 => ?_)
       ·have h:=cond_t hb155 h
        refine ht_seq ?_
        refine ht_seq ?_
        refine ht_joinS h (fun (s156:Bool)=>[(0,vs s),(3,vi s88),(4,vi s89),(42,vb s156)]) ?_ ?_
        ·rintro s156 h
         refine pt_then ?_
         refine ht_cond _ rfl (fun hb160 => ?_) (fun hb160 => ?_)
         ·have h:=cond_t hb160 h
          refine yyy hn 1 [2] ?_
          refine ht_ret ?_
          refine pt_r_then ?_
          refine pt_r_then ?_
          refine pt_r_in ?_
          refine pt_r_then ?_
          refine pt_r_then ?_
          refine pt_r_in ?_
          refine pt_r_then ?_
          have h:=hr150 _ (zi h).symm
          have h:=hr127 _ (ho128 _ (zi h).symm).symm
          obtain rfl:=zi h
          exact pt_ret hio rfl (.tmp _ _ .nil) rfl rfl
         ·have h:=cond_f hb160 h
          refine ht_skip ?_
          refine pt_then ?_
          refine ht_exit ?_
          refine pt_x_then ?_
          refine pt_x_in ?_
          refine pt_pick [0,1,2] (by kernel_rfl) (es':=[(_,_),(_,_),(_,_)]) rfl ?_
          exact hl149 _ (zi h).symm
        ·intro u157 h hl158 hr159
         obtain ⟨v10, hv10, h⟩:=zn h
         obtain ⟨v11, hv11, h⟩:=zn h
         refine cond_some h (fun hg8_5 h => ?_) (fun hg8_5 h => ?_)
         ·obtain ⟨v12, hv12, h⟩:=zn h
          obtain ⟨v13, hv13, h⟩:=zn h
          refine cond_some h (fun hg8_12 h => ?_) (fun hg8_12 h => ?_)
          ·obtain ⟨v14, hv14, h⟩:=zn h
           refine yx hn 2 ?_
           refine ys 0 ⟨lh hv10⟩ ?_
           refine ys 2 ⟨lk call107 (ok_wherryref11_letter _ _ hv11)⟩ ?_
           refine yd hg8_5 2 ?_
           refine ys 0 ⟨lh hv12⟩ ?_
           refine ys 3 ⟨lk call60 (ok_wherryref11_digit _ _ hv13)⟩ ?_
           refine yd hg8_12 2 ?_
           refine ys 2 ⟨lh hv14⟩ ?_
           refine ye [0,3,4,42] ?_
           exact hl158 _ (zi h).symm
          ·refine yx hn 2 ?_
           refine ys 0 ⟨lh hv10⟩ ?_
           refine ys 2 ⟨lk call107 (ok_wherryref11_letter _ _ hv11)⟩ ?_
           refine yd hg8_5 2 ?_
           refine ys 0 ⟨lh hv12⟩ ?_
           refine ys 3 ⟨lk call60 (ok_wherryref11_digit _ _ hv13)⟩ ?_
           refine yd hg8_12 5 ?_
           refine ye [0,3,4,42] ?_
           exact hl158 _ (zi h).symm
         ·refine yx hn 2 ?_
          refine ys 0 ⟨lh hv10⟩ ?_
          refine ys 2 ⟨lk call107 (ok_wherryref11_letter _ _ hv11)⟩ ?_
          refine yd hg8_5 12 ?_
          refine ye [0,3,4,42] ?_
          exact hl158 _ (zi h).symm
       ·have h:=cond_f hb155 h
        refine ht_skip ?_
        refine pt_then (ht_seq ?_)
        refine ht_seq ?_
        refine ht_joinS h (fun (s161:Bool)=>[(0,vs s),(4,vi s89),(60,vb s161)]) ?_ ?_
        ·rintro s161 h
         refine pt_then ?_
         refine ht_cond _ rfl (fun hb165 => ?_) (fun hb165 => ?_)
         ·have h:=cond_t hb165 h
          refine yyy hn 1 [2] ?_
          refine ht_ret ?_
          refine pt_r_then ?_
          refine pt_r_in ?_
          refine pt_r_then ?_
          refine pt_r_then ?_
          refine pt_r_in ?_
          refine pt_r_then ?_
          have h:=hr150 _ (zi h).symm
          have h:=hr127 _ (ho128 _ (zi h).symm).symm
          obtain rfl:=zi h
          exact pt_ret hio rfl (.tmp _ _ .nil) rfl rfl
         ·have h:=cond_f hb165 h
          refine ht_skip ?_
          refine pt_then ?_
          obtain ⟨v30, hv30, h⟩:=zn h
          refine yx hn 1 ?_
          refine ys 1 ⟨lb hv30⟩ ?_
          refine ye [0,4,3] ?_
          refine pt_inb ?_
          refine pt_pick [0,2,1] (by kernel_rfl) (es':=[(_,_),(_,_),(_,_)]) rfl ?_
          exact hl149 _ (zi h).symm
        ·intro u162 h hl163 hr164
         obtain ⟨v20, hv20, h⟩:=zn h
         obtain ⟨v21, hv21, h⟩:=zn h
         refine cond_some h (fun hg10_5 h => ?_) (fun hg10_5 h => ?_)
         ·refine yx hn 2 ?_
          refine ys 0 ⟨lb hv20⟩ ?_
          refine ys 2 ⟨lk call43 (ok_wherryref11_in _ _ _ _ hv21)⟩ ?_
          refine yd hg10_5 12 ?_
          refine ye [0,4,60] ?_
          exact hl163 _ (zi h).symm
         ·obtain ⟨v22, hv22, h⟩:=zn h
          refine cond_some h (fun hg10_11 h => ?_) (fun hg10_11 h => ?_)
          ·refine yx hn 2 ?_
           refine ys 0 ⟨lb hv20⟩ ?_
           refine ys 2 ⟨lk call43 (ok_wherryref11_in _ _ _ _ hv21)⟩ ?_
           refine yd hg10_5 2 ?_
           refine ys 3 ⟨lh hv22⟩ ?_
           refine yd hg10_11 6 ?_
           refine ye [0,4,60] ?_
           exact hl163 _ (zi h).symm
          ·obtain ⟨v23, hv23, h⟩:=zn h
           obtain ⟨v24, hv24, h⟩:=zn h
           refine yx hn 2 ?_
           refine ys 0 ⟨lb hv20⟩ ?_
           refine ys 2 ⟨lk call43 (ok_wherryref11_in _ _ _ _ hv21)⟩ ?_
           refine yd hg10_5 2 ?_
           refine ys 3 ⟨lh hv22⟩ ?_
           refine yd hg10_11 2 ?_
           refine ys 0 ⟨lb hv23⟩ ?_
           refine ys 2 ⟨lh hv24⟩ ?_
           refine ye [0,4,60] ?_
           exact hl163 _ (zi h).symm
      ·intro u152 h hl153 hr154
       refine cond_some h (fun hg7_4 h => ?_) (fun hg7_4 h => ?_)
       ·obtain ⟨v4, hv4, h⟩:=zn h
        refine yx hn 5 ?_
        refine yd hg7_4 2 ?_
        refine ys 2 ⟨lh hv4⟩ ?_
        refine ye [0,3,4,24] ?_
        exact hl153 _ (zi h).symm
       ·refine yx hn 5 ?_
        refine yd hg7_4 5 ?_
        refine ye [0,3,4,24] ?_
        exact hl153 _ (zi h).symm
    ·have h:=cond_f hb131 h
     refine ht_exit ?_
     refine pt_x_then ?_
     refine pt_x_then ?_
     refine pt_x_in ?_
     refine pt_pick [] (by kernel_rfl) (es':=[]) rfl ?_
     exact hl126 _ (ho128 _ (zi h).symm).symm
theorem ok_wherryref11_Path (p:T_Path) (r:Bool) (h:Sh.wherryref11_Path p=some r):FnOK Tryz.prog 66 [.agg [.v (.bool p.Null), .v (.string p.Local), .v (.string p.Domain)]] (.v (.bool r)):=by
  unfold Sh.wherryref11_Path at h
  refine yO 21 func66 fun g0 hn hio => ?_
  refine yyy hn 2 [1] ?_
  refine ht_seq ?_
  refine yyy hn 2 [1,4] ?_
  refine ht_cond _ rfl (fun hb1 => ?_) (fun hb1 => ?_)
  ·have h:=cond_t hb1 h
   refine ht_seq ?_
   refine ht_joinS h (fun (s2:Bool)=>[(2,vb s2)]) ?_ ?_
   ·rintro s2 h
    refine pt_then (ht_ret ?_)
    refine pt_r_then ?_
    obtain rfl:=zi h
    exact pt_ret hio rfl (.tmp _ _ .nil) rfl rfl
   ·intro u3 h hl4 hr5
    refine cond_some h (fun hg2_3 h => ?_) (fun hg2_3 h => ?_)
    ·refine yx hn 4 ?_
     refine yd hg2_3 5 ?_
     refine ye [2] ?_
     exact hl4 _ (zi h).symm
    ·refine yx hn 4 ?_
     refine yd hg2_3 5 ?_
     refine ye [2] ?_
     exact hl4 _ (zi h).symm
  ·have h:=cond_f hb1 h
   refine ht_skip ?_
   refine pt_then (ht_seq ?_)
   refine ht_joinS h (fun (s8:Bool)=>[(2,vb s8)]) ?_ ?_
   ·rintro s8 h
    refine pt_then (ht_ret ?_)
    obtain rfl:=zi h
    exact pt_ret hio rfl (.tmp _ _ .nil) rfl rfl
   ·intro u9 h hl10 hr11
    obtain ⟨v6, hv6, h⟩:=zn h
    refine cond_some h (fun hg3_3 h => ?_) (fun hg3_3 h => ?_)
    ·obtain ⟨v7, hv7, h⟩:=zn h
     refine yx hn 2 ?_
     refine ys 1 ⟨lk call85 (ok_wherryref11_Local _ _ hv6)⟩ ?_
     refine yd hg3_3 2 ?_
     refine ys 2 ⟨lk call86 (ok_wherryref11_Domain _ _ hv7)⟩ ?_
     refine ye [2] ?_
     exact hl10 _ (zi h).symm
    ·refine yx hn 2 ?_
     refine ys 1 ⟨lk call85 (ok_wherryref11_Local _ _ hv6)⟩ ?_
     refine yd hg3_3 5 ?_
     refine ye [2] ?_
     exact hl10 _ (zi h).symm
theorem ok_wherryref11_Body (b:(List Int)) (r:Bool) (h:Sh.wherryref11_Body b=some r):FnOK Tryz.prog 67 [.fl .shr 1 (map (int .u8) b)] (.v (.bool r)):=by
  unfold Sh.wherryref11_Body at h
  refine yO 61 func67 fun g0 hn hio => ?_
  refine yyy hn 1 [0] ?_
  refine ht_seq ?_
  refine yyy hn 1 [0,3] ?_
  refine ht_loopS h (fun (s31:Int)=>[(0,fb b),(3,vi s31)]) (fun (():Unit)=>[(0,fb b)]) ?_ ?_
  ·rintro ⟨⟩ h
   refine pt_then (ht_seq ?_)
   refine ht_joinS h (fun (s53:Bool)=>[(2,vb s53)]) ?_ ?_
   ·rintro s53 h
    refine pt_then (ht_ret ?_)
    obtain rfl:=zi h
    exact pt_ret hio rfl (.tmp _ _ .nil) rfl rfl
   ·intro u54 h hl55 hr56
    refine cond_some h (fun hg6_3 h => ?_) (fun hg6_3 h => ?_)
    ·refine yx hn 4 ?_
     refine yd hg6_3 9 ?_
     refine ye [2] ?_
     exact hl55 _ (zi h).symm
    ·obtain ⟨v50, hv50, h⟩:=zn h
     obtain ⟨v51, hv51, h⟩:=zn h
     obtain ⟨v52, hv52, h⟩:=zn h
     refine yx hn 4 ?_
     refine yd hg6_3 3 ?_
     refine ys 0 ⟨lb hv50⟩ ?_
     refine ys 0 ⟨li hv51⟩ ?_
     refine ys 3 ⟨ll hv52⟩ ?_
     refine ye [2] ?_
     exact hl55 _ (zi h).symm
  ·rintro u38 hl39 hr40 s31 rr43 h ho41
   refine ht_seq ?_
   refine yyy hn 4 [0,3,7] ?_
   refine ht_cond _ rfl (fun hb44 => ?_) (fun hb44 => ?_)
   ·have h:=cond_t hb44 h
    refine ht_skip ?_
    refine pt_then (ht_seq ?_)
    refine ht_block ?_
    refine ht_seq ?_
    refine ht_joinS h (fun (s45:Bool)=>[(0,fb b),(3,vi s31),(48,vb s45)]) ?_ ?_
    ·rintro s45 h
     refine pt_then ?_
     refine ht_cond _ rfl (fun hb49 => ?_) (fun hb49 => ?_)
     ·have h:=cond_t hb49 h
      refine yyy hn 1 [2] ?_
      refine ht_ret ?_
      refine pt_r_in ?_
      refine pt_r_then ?_
      refine pt_r_then ?_
      refine pt_r_in ?_
      refine pt_r_then ?_
      have h:=hr40 _ (ho41 _ (zi h).symm).symm
      obtain rfl:=zi h
      exact pt_ret hio rfl (.tmp _ _ .nil) rfl rfl
     ·have h:=cond_f hb49 h
      refine ht_skip ?_
      refine pt_inb ?_
      refine pt_then ?_
      obtain ⟨v23, hv23, h⟩:=zn h
      refine yx hn 1 ?_
      refine ys 0 ⟨lb hv23⟩ ?_
      refine yw [3] 1 ?_
      refine ye [0,3] ?_
      exact pt_next _ (zi h).symm rfl
    ·intro u46 h hl47 hr48
     obtain ⟨v2, hv2, h⟩:=zn h
     obtain ⟨v3, hv3, h⟩:=zn h
     refine cond_some h (fun hg4_5 h => ?_) (fun hg4_5 h => ?_)
     ·obtain ⟨v4, hv4, h⟩:=zn h
      refine cond_some h (fun hg4_11 h => ?_) (fun hg4_11 h => ?_)
      ·refine yx hn 2 ?_
       refine ys 0 ⟨li hv2⟩ ?_
       refine ys 2 ⟨ll hv3⟩ ?_
       refine yd hg4_5 1 ?_
       refine ys 4 ⟨lb hv4⟩ ?_
       refine yd hg4_11 27 ?_
       refine ye [0,3,48] ?_
       exact hl47 _ (zi h).symm
      ·obtain ⟨v5, hv5, h⟩:=zn h
       obtain ⟨v6, hv6, h⟩:=zn h
       obtain ⟨v7, hv7, h⟩:=zn h
       refine cond_some h (fun hg4_20 h => ?_) (fun hg4_20 h => ?_)
       ·refine yx hn 2 ?_
        refine ys 0 ⟨li hv2⟩ ?_
        refine ys 2 ⟨ll hv3⟩ ?_
        refine yd hg4_5 1 ?_
        refine ys 4 ⟨lb hv4⟩ ?_
        refine yd hg4_11 2 ?_
        refine ys 0 ⟨lb hv5⟩ ?_
        refine ys 0 ⟨li hv6⟩ ?_
        refine ys 4 ⟨ll hv7⟩ ?_
        refine yd hg4_20 18 ?_
        refine ye [0,3,48] ?_
        exact hl47 _ (zi h).symm
       ·obtain ⟨v8, hv8, h⟩:=zn h
        obtain ⟨v9, hv9, h⟩:=zn h
        refine cond_some h (fun hg4_26 h => ?_) (fun hg4_26 h => ?_)
        ·refine cond_some h (fun hg4_29 h => ?_) (fun hg4_29 h => ?_)
         ·refine yx hn 2 ?_
          refine ys 0 ⟨li hv2⟩ ?_
          refine ys 2 ⟨ll hv3⟩ ?_
          refine yd hg4_5 1 ?_
          refine ys 4 ⟨lb hv4⟩ ?_
          refine yd hg4_11 2 ?_
          refine ys 0 ⟨lb hv5⟩ ?_
          refine ys 0 ⟨li hv6⟩ ?_
          refine ys 4 ⟨ll hv7⟩ ?_
          refine yd hg4_20 2 ?_
          refine ys 0 ⟨li hv8⟩ ?_
          refine ys 2 ⟨ll hv9⟩ ?_
          refine yd hg4_26 3 ?_
          refine yd hg4_29 9 ?_
          refine ye [0,3,48] ?_
          exact hl47 _ (zi h).symm
         ·obtain ⟨v10, hv10, h⟩:=zn h
          obtain ⟨v11, hv11, h⟩:=zn h
          obtain ⟨v12, hv12, h⟩:=zn h
          refine yx hn 2 ?_
          refine ys 0 ⟨li hv2⟩ ?_
          refine ys 2 ⟨ll hv3⟩ ?_
          refine yd hg4_5 1 ?_
          refine ys 4 ⟨lb hv4⟩ ?_
          refine yd hg4_11 2 ?_
          refine ys 0 ⟨lb hv5⟩ ?_
          refine ys 0 ⟨li hv6⟩ ?_
          refine ys 4 ⟨ll hv7⟩ ?_
          refine yd hg4_20 2 ?_
          refine ys 0 ⟨li hv8⟩ ?_
          refine ys 2 ⟨ll hv9⟩ ?_
          refine yd hg4_26 3 ?_
          refine yd hg4_29 2 ?_
          refine ys 0 ⟨lb hv10⟩ ?_
          refine ys 0 ⟨li hv11⟩ ?_
          refine ys 4 ⟨ll hv12⟩ ?_
          refine ye [0,3,48] ?_
          exact hl47 _ (zi h).symm
        ·refine yx hn 2 ?_
         refine ys 0 ⟨li hv2⟩ ?_
         refine ys 2 ⟨ll hv3⟩ ?_
         refine yd hg4_5 1 ?_
         refine ys 4 ⟨lb hv4⟩ ?_
         refine yd hg4_11 2 ?_
         refine ys 0 ⟨lb hv5⟩ ?_
         refine ys 0 ⟨li hv6⟩ ?_
         refine ys 4 ⟨ll hv7⟩ ?_
         refine yd hg4_20 2 ?_
         refine ys 0 ⟨li hv8⟩ ?_
         refine ys 2 ⟨ll hv9⟩ ?_
         refine yd hg4_26 12 ?_
         refine ye [0,3,48] ?_
         exact hl47 _ (zi h).symm
     ·obtain ⟨v13, hv13, h⟩:=zn h
      obtain ⟨v14, hv14, h⟩:=zn h
      refine cond_some h (fun hg4_26 h => ?_) (fun hg4_26 h => ?_)
      ·refine cond_some h (fun hg4_29 h => ?_) (fun hg4_29 h => ?_)
       ·refine yx hn 2 ?_
        refine ys 0 ⟨li hv2⟩ ?_
        refine ys 2 ⟨ll hv3⟩ ?_
        refine yd hg4_5 17 ?_
        refine ys 0 ⟨li hv13⟩ ?_
        refine ys 2 ⟨ll hv14⟩ ?_
        refine yd hg4_26 3 ?_
        refine yd hg4_29 9 ?_
        refine ye [0,3,48] ?_
        exact hl47 _ (zi h).symm
       ·obtain ⟨v15, hv15, h⟩:=zn h
        obtain ⟨v16, hv16, h⟩:=zn h
        obtain ⟨v17, hv17, h⟩:=zn h
        refine yx hn 2 ?_
        refine ys 0 ⟨li hv2⟩ ?_
        refine ys 2 ⟨ll hv3⟩ ?_
        refine yd hg4_5 17 ?_
        refine ys 0 ⟨li hv13⟩ ?_
        refine ys 2 ⟨ll hv14⟩ ?_
        refine yd hg4_26 3 ?_
        refine yd hg4_29 2 ?_
        refine ys 0 ⟨lb hv15⟩ ?_
        refine ys 0 ⟨li hv16⟩ ?_
        refine ys 4 ⟨ll hv17⟩ ?_
        refine ye [0,3,48] ?_
        exact hl47 _ (zi h).symm
      ·refine yx hn 2 ?_
       refine ys 0 ⟨li hv2⟩ ?_
       refine ys 2 ⟨ll hv3⟩ ?_
       refine yd hg4_5 17 ?_
       refine ys 0 ⟨li hv13⟩ ?_
       refine ys 2 ⟨ll hv14⟩ ?_
       refine yd hg4_26 12 ?_
       refine ye [0,3,48] ?_
       exact hl47 _ (zi h).symm
   ·have h:=cond_f hb44 h
    refine ht_exit ?_
    refine pt_x_then ?_
    refine pt_x_then ?_
    refine pt_x_in ?_
    refine pt_pick [0] (by kernel_rfl) (es':=[(_,_)]) rfl ?_
    exact hl39 _ (ho41 _ (zi h).symm).symm
theorem ok_wherryref11_Mail (m:T_Mail) (r:Bool) (h:Sh.wherryref11_Mail m=some r):FnOK Tryz.prog 44 [.agg [.v (.bool m.From.Null), .v (.string m.From.Local), .v (.string m.From.Domain), .fl .shr 3 (flatten (map T_Path.enc m.To)), .fl .shr 1 (map (int .u8) m.Body), .v (.bool m.Quiet), .v (.string m.Helo), .v (.int .i64 m.At)]] (.v (.bool r)):=by
  unfold Sh.wherryref11_Mail at h
  refine yO 49 func44 fun g0 hn hio => ?_
  refine yyy hn 2 [1] ?_
  refine ht_seq ?_
  refine ht_seq ?_
  refine ht_joinS h (fun (s4:Bool)=>[(1,.box 46 (T_Mail.c m [])),(26,vb s4)]) ?_ ?_
  ·rintro s4 h
   refine pt_then ?_
   refine ht_cond _ rfl (fun hb8 => ?_) (fun hb8 => ?_)
   ·have h:=cond_t hb8 h
    refine yyy hn 1 [2] ?_
    refine ht_ret ?_
    refine pt_r_then ?_
    obtain rfl:=zi h
    exact pt_ret hio rfl (.tmp _ _ .nil) rfl rfl
   ·have h:=cond_f hb8 h
    refine ht_skip ?_
    refine pt_then (ht_seq ?_)
    refine yyy hn 1 [1,3] ?_
    refine ht_loopS h (fun (s28:Int)=>[(1,.box 46 (T_Mail.c m [])),(3,vi s28)]) (fun (():Unit)=>[]) ?_ ?_
    ·rintro ⟨⟩ h
     refine pt_then ?_
     refine yyy hn 1 [2] ?_
     refine ht_ret ?_
     obtain rfl:=zi h
     exact pt_ret hio rfl (.tmp _ _ .nil) rfl rfl
    ·rintro u35 hl36 hr37 s28 rr40 h ho38
     refine ht_seq ?_
     refine yyy hn 5 [1,3,31] ?_
     refine ht_cond _ rfl (fun hb41 => ?_) (fun hb41 => ?_)
     ·have h:=cond_t hb41 h
      refine ht_skip ?_
      refine pt_then (ht_seq ?_)
      refine ht_block ?_
      refine ht_seq ?_
      refine ht_joinS h (fun (s42:Bool)=>[(1,.box 46 (T_Mail.c m [])),(3,vi s28),(48,vb s42)]) ?_ ?_
      ·rintro s42 h
       refine pt_then ?_
       refine ht_cond _ rfl (fun hb46 => ?_) (fun hb46 => ?_)
       ·have h:=cond_t hb46 h
        refine yyy hn 1 [2] ?_
        refine ht_ret ?_
        refine pt_r_in ?_
        refine pt_r_then ?_
        refine pt_r_then ?_
        refine pt_r_in ?_
        refine pt_r_then ?_
        have h:=hr37 _ (ho38 _ (zi h).symm).symm
        obtain rfl:=zi h
        exact pt_ret hio rfl (.tmp _ _ .nil) rfl rfl
       ·have h:=cond_f hb46 h
        refine ht_skip ?_
        refine pt_inb ?_
        refine pt_then ?_
        obtain ⟨v20, hv20, h⟩:=zn h
        refine yx hn 1 ?_
        refine ys 0 ⟨lb hv20⟩ ?_
        refine yw [3] 1 ?_
        refine ye [1,3] ?_
        exact pt_next _ (zi h).symm rfl
      ·intro u43 h hl44 hr45
       obtain ⟨v10, hv10, h⟩:=zn h
       obtain ⟨v11, hv11, h⟩:=zn h
       obtain ⟨v12, hv12, h⟩:=zn h
       refine cond_some h (fun hg6_7 h => ?_) (fun hg6_7 h => ?_)
       ·refine yx hn 3 ?_
        refine ys 0 ⟨lj hv10⟩ ?_
        refine yS (.agg [vb v11.Null,vs v11.Local,vs v11.Domain]) 0 ⟨op_load_eA _ _ _ _ _ _ _ underlying43 rfl sz43 rfl rfl (flat_get T_Path.len hv11) rfl (by decide)⟩ ?_
        refine ys 2 ⟨lk call66 (ok_wherryref11_Path _ _ hv12)⟩ ?_
        refine yd hg6_7 7 ?_
        refine ye [1,3,48] ?_
        exact hl44 _ (zi h).symm
       ·obtain ⟨v13, hv13, h⟩:=zn h
        obtain ⟨v14, hv14, h⟩:=zn h
        refine yx hn 3 ?_
        refine ys 0 ⟨lj hv10⟩ ?_
        refine yS (.agg [vb v11.Null,vs v11.Local,vs v11.Domain]) 0 ⟨op_load_eA _ _ _ _ _ _ _ underlying43 rfl sz43 rfl rfl (flat_get T_Path.len hv11) rfl (by decide)⟩ ?_
        refine ys 2 ⟨lk call66 (ok_wherryref11_Path _ _ hv12)⟩ ?_
        refine yd hg6_7 3 ?_
        refine ys 1 ⟨lj hv13⟩ ?_
        refine ys 1 ⟨lL hv14⟩ ?_
        refine ye [1,3,48] ?_
        exact hl44 _ (zi h).symm
     ·have h:=cond_f hb41 h
      refine ht_exit ?_
      refine pt_x_then ?_
      refine pt_x_then ?_
      refine pt_x_in ?_
      refine pt_pick [] (by kernel_rfl) (es':=[]) rfl ?_
      exact hl36 _ (ho38 _ (zi h).symm).symm
  ·intro u5 h hl6 hr7
   obtain ⟨v1, hv1, h⟩:=zn h
   refine cond_some h (fun hg1_4 h => ?_) (fun hg1_4 h => ?_)
   ·refine yx hn 2 ?_
    refine ys 2 ⟨lk call66 (ok_wherryref11_Path _ _ hv1)⟩ ?_
    refine yd hg1_4 18 ?_
    refine ye [1,26] ?_
    exact hl6 _ (zi h).symm
   ·obtain ⟨v2, hv2, h⟩:=zn h
    refine cond_some h (fun hg1_11 h => ?_) (fun hg1_11 h => ?_)
    ·refine yx hn 2 ?_
     refine ys 2 ⟨lk call66 (ok_wherryref11_Path _ _ hv1)⟩ ?_
     refine yd hg1_4 3 ?_
     refine ys 3 ⟨lk call43 (ok_wherryref11_in _ _ _ _ hv2)⟩ ?_
     refine yd hg1_11 11 ?_
     refine ye [1,26] ?_
     exact hl6 _ (zi h).symm
    ·obtain ⟨v3, hv3, h⟩:=zn h
     refine cond_some h (fun hg1_17 h => ?_) (fun hg1_17 h => ?_)
     ·refine yx hn 2 ?_
      refine ys 2 ⟨lk call66 (ok_wherryref11_Path _ _ hv1)⟩ ?_
      refine yd hg1_4 3 ?_
      refine ys 3 ⟨lk call43 (ok_wherryref11_in _ _ _ _ hv2)⟩ ?_
      refine yd hg1_11 2 ?_
      refine ys 3 ⟨lk call67 (ok_wherryref11_Body _ _ hv3)⟩ ?_
      refine yd hg1_17 5 ?_
      refine ye [1,26] ?_
      exact hl6 _ (zi h).symm
     ·refine yx hn 2 ?_
      refine ys 2 ⟨lk call66 (ok_wherryref11_Path _ _ hv1)⟩ ?_
      refine yd hg1_4 3 ?_
      refine ys 3 ⟨lk call43 (ok_wherryref11_in _ _ _ _ hv2)⟩ ?_
      refine yd hg1_11 2 ?_
      refine ys 3 ⟨lk call67 (ok_wherryref11_Body _ _ hv3)⟩ ?_
      refine yd hg1_17 5 ?_
      refine ye [1,26] ?_
      exact hl6 _ (zi h).symm
theorem ok_wherryref11_Bundle (b:T_Bundle) (r:Bool) (h:Sh.wherryref11_Bundle b=some r):FnOK Tryz.prog 20 [.agg [.v (.int .i64 b.Origin), .v (.int .i64 b.Number), .fr .shr true 8 (flatten (map T_Mail.ienc b.Mails))]] (.v (.bool r)):=by
  unfold Sh.wherryref11_Bundle at h
  refine yO 51 func20 fun g0 hn hio => ?_
  refine yyy hn 2 [1] ?_
  refine ht_seq ?_
  refine ht_seq ?_
  refine ht_joinS h (fun (s4:Bool)=>[(1,.box 24 [vi b.Origin,vi b.Number,.fr .shr true 8 (flatten (map T_Mail.ienc b.Mails))]),(21,vb s4)]) ?_ ?_
  ·rintro s4 h
   refine pt_then ?_
   refine ht_cond _ rfl (fun hb8 => ?_) (fun hb8 => ?_)
   ·have h:=cond_t hb8 h
    refine yyy hn 1 [2] ?_
    refine ht_ret ?_
    refine pt_r_then ?_
    obtain rfl:=zi h
    exact pt_ret hio rfl (.tmp _ _ .nil) rfl rfl
   ·have h:=cond_f hb8 h
    refine ht_skip ?_
    refine pt_then (ht_seq ?_)
    refine yyy hn 1 [1,3] ?_
    refine ht_loopS h (fun (s26:Int)=>[(1,.box 24 [vi b.Origin,vi b.Number,.fr .shr true 8 (flatten (map T_Mail.ienc b.Mails))]),(3,vi s26)]) (fun (():Unit)=>[]) ?_ ?_
    ·rintro ⟨⟩ h
     refine pt_then ?_
     refine yyy hn 1 [2] ?_
     refine ht_ret ?_
     obtain rfl:=zi h
     exact pt_ret hio rfl (.tmp _ _ .nil) rfl rfl
    ·rintro u33 hl34 hr35 s26 rr38 h ho36
     refine ht_seq ?_
     refine yyy hn 5 [1,3,26] ?_
     refine ht_cond _ rfl (fun hb39 => ?_) (fun hb39 => ?_)
     ·have h:=cond_t hb39 h
      refine ht_skip ?_
      refine pt_then (ht_seq ?_)
      refine ht_block ?_
      refine ht_seq ?_
      obtain ⟨v10, hv10, h⟩:=zn h
      obtain ⟨v11, hv11, h⟩:=zn h
      refine yx hn 3 ?_
      refine ys 0 ⟨lI hv10⟩ ?_
      refine yS (.agg (T_Mail.c v11 [])) 0 ⟨op_loadA_fr _ _ _ _ _ _ _ _ underlying46 rfl sz46 rfl rfl (gflat_get T_Mail.ilen hv11) (.cons (.v _) (.cons (.v _) (.cons (.v _) (.cons (.fl _ _ rfl) (.cons (.fl _ _ rfl) (.cons (.v _) (.cons (.v _) (.cons (.v _) (.nil))))))))) rfl (by decide)⟩ ?_
      refine yS (.box 46 [vb false,vs z0,vs z0,vz,vz,vb false,vs z0,vi 0]) 1 ⟨oA (op_alloc _ _ zr46)⟩ ?_
      refine yee [1,3,4] ?_
      refine ht_seq ?_
      refine ht_joinS h (fun (s40:Bool)=>[(1,.box 24 [vi b.Origin,vi b.Number,.fr .shr true 8 (flatten (map T_Mail.ienc b.Mails))]),(3,vi s26),(50,vb s40)]) ?_ ?_
      ·rintro s40 h
       refine pt_then ?_
       refine ht_cond _ rfl (fun hb44 => ?_) (fun hb44 => ?_)
       ·have h:=cond_t hb44 h
        refine yyy hn 1 [2] ?_
        refine ht_ret ?_
        refine pt_r_in ?_
        refine pt_r_then ?_
        refine pt_r_then ?_
        refine pt_r_in ?_
        refine pt_r_then ?_
        have h:=hr35 _ (ho36 _ (zi h).symm).symm
        obtain rfl:=zi h
        exact pt_ret hio rfl (.tmp _ _ .nil) rfl rfl
       ·have h:=cond_f hb44 h
        refine ht_skip ?_
        refine pt_inb ?_
        refine pt_then ?_
        obtain ⟨v18, hv18, h⟩:=zn h
        refine yx hn 1 ?_
        refine ys 0 ⟨lb hv18⟩ ?_
        refine yw [3] 1 ?_
        refine ye [1,3] ?_
        exact pt_next _ (zi h).symm rfl
      ·intro u41 h hl42 hr43
       obtain ⟨v12, hv12, h⟩:=zn h
       refine cond_some h (fun hg7_3 h => ?_) (fun hg7_3 h => ?_)
       ·refine yx hn 1 ?_
        refine ys 2 ⟨lk call44 (ok_wherryref11_Mail _ _ hv12)⟩ ?_
        refine yd hg7_3 13 ?_
        refine ye [1,3,50] ?_
        exact hl42 _ (zi h).symm
       ·refine cond_some h (fun hg7_7 h => ?_) (fun hg7_7 h => ?_)
        ·refine yx hn 1 ?_
         refine ys 2 ⟨lk call44 (ok_wherryref11_Mail _ _ hv12)⟩ ?_
         refine yd hg7_3 4 ?_
         refine yd hg7_7 9 ?_
         refine ye [1,3,50] ?_
         exact hl42 _ (zi h).symm
        ·refine cond_some h (fun hg7_12 h => ?_) (fun hg7_12 h => ?_)
         ·refine yx hn 1 ?_
          refine ys 2 ⟨lk call44 (ok_wherryref11_Mail _ _ hv12)⟩ ?_
          refine yd hg7_3 4 ?_
          refine yd hg7_7 5 ?_
          refine yd hg7_12 4 ?_
          refine ye [1,3,50] ?_
          exact hl42 _ (zi h).symm
         ·refine yx hn 1 ?_
          refine ys 2 ⟨lk call44 (ok_wherryref11_Mail _ _ hv12)⟩ ?_
          refine yd hg7_3 4 ?_
          refine yd hg7_7 5 ?_
          refine yd hg7_12 4 ?_
          refine ye [1,3,50] ?_
          exact hl42 _ (zi h).symm
     ·have h:=cond_f hb39 h
      refine ht_exit ?_
      refine pt_x_then ?_
      refine pt_x_then ?_
      refine pt_x_in ?_
      refine pt_pick [] (by kernel_rfl) (es':=[]) rfl ?_
      exact hl34 _ (ho36 _ (zi h).symm).symm
  ·intro u5 h hl6 hr7
   obtain ⟨v1, hv1, h⟩:=zn h
   refine cond_some h (fun hg1_4 h => ?_) (fun hg1_4 h => ?_)
   ·refine yx hn 2 ?_
    refine ys 2 ⟨lk call43 (ok_wherryref11_in _ _ _ _ hv1)⟩ ?_
    refine yd hg1_4 12 ?_
    refine ye [1,21] ?_
    exact hl6 _ (zi h).symm
   ·obtain ⟨v2, hv2, h⟩:=zn h
    refine cond_some h (fun hg1_10 h => ?_) (fun hg1_10 h => ?_)
    ·refine yx hn 2 ?_
     refine ys 2 ⟨lk call43 (ok_wherryref11_in _ _ _ _ hv1)⟩ ?_
     refine yd hg1_4 2 ?_
     refine ys 3 ⟨lk call43 (ok_wherryref11_in _ _ _ _ hv2)⟩ ?_
     refine yd hg1_10 6 ?_
     refine ye [1,21] ?_
     exact hl6 _ (zi h).symm
    ·obtain ⟨v3, hv3, h⟩:=zn h
     refine yx hn 2 ?_
     refine ys 2 ⟨lk call43 (ok_wherryref11_in _ _ _ _ hv1)⟩ ?_
     refine yd hg1_4 2 ?_
     refine ys 3 ⟨lk call43 (ok_wherryref11_in _ _ _ _ hv2)⟩ ?_
     refine yd hg1_10 3 ?_
     refine ys 2 ⟨lk call43 (ok_wherryref11_in _ _ _ _ hv3)⟩ ?_
     refine ye [1,21] ?_
     exact hl6 _ (zi h).symm
theorem ok_wherryref11_Text (p:T_Path) (r:ByteArray) (h:Sh.wherryref11_Text p=some r):FnOK Tryz.prog 54 [.agg [.v (.bool p.Null), .v (.string p.Local), .v (.string p.Domain)]] (.v (.string r)):=by
  unfold Sh.wherryref11_Text at h
  refine yO 13 func54 fun g0 hn hio => ?_
  refine yyy hn 2 [1] ?_
  refine ht_seq ?_
  refine yyy hn 2 [1,4] ?_
  refine ht_cond _ rfl (fun hb1 => ?_) (fun hb1 => ?_)
  ·have h:=cond_t hb1 h
   refine yyy hn 1 [2] ?_
   refine ht_ret ?_
   refine pt_r_then ?_
   obtain rfl:=zi h
   exact pt_ret hio rfl (.tmp _ _ .nil) rfl rfl
  ·have h:=cond_f hb1 h
   refine ht_skip ?_
   refine pt_then (ht_seq ?_)
   obtain ⟨v2, hv2, h⟩:=zn h
   obtain ⟨v3, hv3, h⟩:=zn h
   obtain ⟨v4, hv4, h⟩:=zn h
   obtain ⟨v5, hv5, h⟩:=zn h
   refine yx hn 2 ?_
   refine ys 0 ⟨lB (cat_ok hv2)⟩ ?_
   refine ys 2 ⟨lB (cat_ok hv3)⟩ ?_
   refine ys 0 ⟨lB (cat_ok hv4)⟩ ?_
   refine ys 1 ⟨lB (cat_ok hv5)⟩ ?_
   refine yee [2] ?_
   refine ht_ret ?_
   obtain rfl:=zi h
   exact pt_ret hio rfl (.tmp _ _ .nil) rfl rfl
theorem ok_wherryref11_Stuff (b:(List Int)) (r:(List Int)) (h:Sh.wherryref11_Stuff b=some r):FnOK Tryz.prog 55 [.fl .shr 1 (map (int .u8) b)] (.fl (.own 5) 1 (map (int .u8) r)):=by
  unfold Sh.wherryref11_Stuff at h
  refine yO 41 func55 fun g0 hn hio => ?_
  refine yyy hn 1 [0] ?_
  refine yyy hn 1 [0,3] ?_
  refine ht_seq ?_
  refine yyy hn 1 [0,3,4] ?_
  refine ht_sub (fs:=[(0,fb b),(3,.fl (.own 5) 1 (map (int .u8) [])),(4,vi 0)]) (.same _ (.sub _ (sub_nil 5 1) rfl (.same _ .nil))) ?_
  refine ht_loopS h (fun ((s43,s44):(List Int)×Int)=>[(0,fb b),(3,.fl (.own 5) 1 (map (int .u8) s43)),(4,vi s44)]) (fun (s60:(List Int))=>[(3,.fl (.own 5) 1 (map (int .u8) s60))]) ?_ ?_
  ·rintro s60 h
   refine pt_then (ht_seq ?_)
   obtain ⟨v82, hv82, h⟩:=zn h
   refine yx hn 0 ?_
   refine ym 0 ?_
   refine yS (.fl (.own 5) 1 (map (int .u8) [46,13,10])) 0 ⟨op_buildSlice _ _ 1 (.int .u8 0) (map (int .u8) [46,13,10]) [(0,.int .u8 46),(1,.int .u8 13),(2,.int .u8 10)] underlying25 sz5 zr5 (fun _ V w o a hv hes=>by simp only [List.map_toArray,List.map_cons,List.map_nil]; try rfl) (litfill (by simp [Instr.fill,Value.cells]; rfl) (by simp [List.range,List.range.loop] <;> rfl)) (by simp [Value.oneCell']) rfl (by decide) (by decide) (by decide)⟩ ?_
   refine yp el25 hv82 0 ?_
   refine ya 0 ?_
   refine yee [2] ?_
   refine ht_ret ?_
   obtain rfl:=zi h
   exact pt_ret hio rfl (.tmp _ _ .nil) rfl rfl
  ·rintro u61 hl62 hr63 ⟨s43, s44⟩ rr66 h ho64
   refine ht_seq ?_
   refine yyy hn 4 [0,3,4,8] ?_
   refine ht_cond _ rfl (fun hb67 => ?_) (fun hb67 => ?_)
   ·have h:=cond_t hb67 h
    refine ht_skip ?_
    refine pt_then (ht_seq ?_)
    refine ht_block ?_
    refine ht_seq ?_
    refine ht_joinS h (fun (s73:(List Int))=>[(0,fb b),(4,vi s44),(3,.fl (.own 5) 1 (map (int .u8) s73))]) ?_ ?_
    ·rintro s73 h
     refine pt_then ?_
     obtain ⟨v22, hv22, h⟩:=zn h
     obtain ⟨v23, hv23, h⟩:=zn h
     obtain ⟨v24, hv24, h⟩:=zn h
     refine yx hn 0 ?_
     refine ym 2 ?_
     refine ys 0 ⟨li hv22⟩ ?_
     refine ys 0 ⟨ll hv23⟩ ?_
     refine yS (.fl (.own 5) 1 (map (int .u8) [v23])) 0 ⟨op_buildSlice _ _ 1 (.int .u8 0) (map (int .u8) [v23]) [(0,.int .u8 v23)] underlying25 sz5 zr5 (fun _ V w o a hv hes=>by have e0:=rd_v hv hes (x := .tmp 35) rfl; simp only [List.map_toArray,List.map_cons,List.map_nil,e0]; try rfl) (litfill (by simp [Instr.fill,Value.cells]; rfl) (by simp [List.range,List.range.loop] <;> rfl)) (by simp [Value.oneCell']) rfl (by decide) (by decide) (by decide)⟩ ?_
     refine yp el25 hv24 0 ?_
     refine ya 0 ?_
     refine ye [0,4,3] ?_
     refine pt_inb ?_
     refine pt_then ?_
     obtain ⟨v25, hv25, h⟩:=zn h
     refine yx hn 1 ?_
     refine ys 0 ⟨lb hv25⟩ ?_
     refine yw [4] 1 ?_
     refine ye [0,3,4] ?_
     exact pt_next _ (zi h).symm rfl
    ·intro u74 h hl75 hr76
     refine ht_seq ?_
     refine ht_joinS h (fun (s77:Bool)=>[(0,fb b),(3,.fl (.own 5) 1 (map (int .u8) s43)),(4,vi s44),(27,vb s77)]) ?_ ?_
     ·rintro s77 h
      refine pt_then ?_
      refine ht_cond _ rfl (fun hb81 => ?_) (fun hb81 => ?_)
      ·have h:=cond_t hb81 h
       obtain ⟨v12, hv12, h⟩:=zn h
       refine yx hn 0 ?_
       refine ym 0 ?_
       refine yS (.fl (.own 5) 1 (map (int .u8) [46])) 0 ⟨op_buildSlice _ _ 1 (.int .u8 0) (map (int .u8) [46]) [(0,.int .u8 46)] underlying25 sz5 zr5 (fun _ V w o a hv hes=>by simp only [List.map_toArray,List.map_cons,List.map_nil]; try rfl) (litfill (by simp [Instr.fill,Value.cells]; rfl) (by simp [List.range,List.range.loop] <;> rfl)) (by simp [Value.oneCell']) rfl (by decide) (by decide) (by decide)⟩ ?_
       refine yp el25 hv12 0 ?_
       refine ya 0 ?_
       refine ye [0,4,3] ?_
       exact hl75 _ (zi h).symm
      ·have h:=cond_f hb81 h
       refine ht_skip ?_
       refine pt_pick [0,2,1] (by kernel_rfl) (es':=[(_,_),(_,_),(_,_)]) rfl ?_
       exact hl75 _ (zi h).symm
     ·intro u78 h hl79 hr80
      obtain ⟨v2, hv2, h⟩:=zn h
      obtain ⟨v3, hv3, h⟩:=zn h
      refine cond_some h (fun hg5_5 h => ?_) (fun hg5_5 h => ?_)
      ·refine cond_some h (fun hg5_8 h => ?_) (fun hg5_8 h => ?_)
       ·refine yx hn 2 ?_
        refine ys 0 ⟨li hv2⟩ ?_
        refine ys 2 ⟨ll hv3⟩ ?_
        refine yd hg5_5 3 ?_
        refine yd hg5_8 8 ?_
        refine ye [0,3,4,27] ?_
        exact hl79 _ (zi h).symm
       ·obtain ⟨v4, hv4, h⟩:=zn h
        obtain ⟨v5, hv5, h⟩:=zn h
        obtain ⟨v6, hv6, h⟩:=zn h
        refine yx hn 2 ?_
        refine ys 0 ⟨li hv2⟩ ?_
        refine ys 2 ⟨ll hv3⟩ ?_
        refine yd hg5_5 3 ?_
        refine yd hg5_8 2 ?_
        refine ys 0 ⟨lb hv4⟩ ?_
        refine ys 0 ⟨li hv5⟩ ?_
        refine ys 3 ⟨ll hv6⟩ ?_
        refine ye [0,3,4,27] ?_
        exact hl79 _ (zi h).symm
      ·refine yx hn 2 ?_
       refine ys 0 ⟨li hv2⟩ ?_
       refine ys 2 ⟨ll hv3⟩ ?_
       refine yd hg5_5 11 ?_
       refine ye [0,3,4,27] ?_
       exact hl79 _ (zi h).symm
   ·have h:=cond_f hb67 h
    refine ht_exit ?_
    refine pt_x_then ?_
    refine pt_x_then ?_
    refine pt_x_in ?_
    refine pt_pick [1] (by kernel_rfl) (es':=[(_,_)]) rfl ?_
    exact hl62 _ (ho64 _ (zi h).symm).symm
theorem ok_wherryref11_commands (b:T_Bundle) (r:(List Int)) (h:Sh.wherryref11_commands b=some r):FnOK Tryz.prog 33 [.agg [.v (.int .i64 b.Origin), .v (.int .i64 b.Number), .fr .shr true 8 (flatten (map T_Mail.ienc b.Mails))]] (.fl (.own 5) 1 (map (int .u8) r)):=by
  unfold Sh.wherryref11_commands at h
  refine yO 51 func33 fun g0 hn hio => ?_
  refine yyy hn 2 [1] ?_
  refine yyy hn 1 [1,3] ?_
  refine ht_seq ?_
  refine yyy hn 1 [1,3,4] ?_
  refine ht_sub (fs:=[(1,.box 24 [vi b.Origin,vi b.Number,.fr .shr true 8 (flatten (map T_Mail.ienc b.Mails))]),(3,.fl (.own 5) 1 (map (int .u8) [])),(4,vi 0)]) (.same _ (.sub _ (sub_nil 5 1) rfl (.same _ .nil))) ?_
  refine ht_loopS h (fun ((s52,s53):(List Int)×Int)=>[(1,.box 24 [vi b.Origin,vi b.Number,.fr .shr true 8 (flatten (map T_Mail.ienc b.Mails))]),(3,.fl (.own 5) 1 (map (int .u8) s52)),(4,vi s53)]) (fun (s70:(List Int))=>[(3,.fl (.own 5) 1 (map (int .u8) s70))]) ?_ ?_
  ·rintro s70 h
   refine pt_then (ht_seq ?_)
   obtain ⟨v93, hv93, h⟩:=zn h
   refine yx hn 0 ?_
   refine ym 0 ?_
   refine yk [49] [] ?_
   refine ytt (49,.any) (50,.fl (.own 5) 1 (map (int .u8) v93)) 0 ⟨op_apps _ _ _ _ _ el25 zr5 underlying9 rfl rfl rfl hv93 rfl⟩ ?_
   refine ya 0 ?_
   refine yee [2] ?_
   refine ht_ret ?_
   obtain rfl:=zi h
   exact pt_ret hio rfl (.tmp _ _ .nil) rfl rfl
  ·rintro u71 hl72 hr73 ⟨s52, s53⟩ rr76 h ho74
   refine ht_seq ?_
   refine yyy hn 5 [1,3,4,11] ?_
   refine ht_cond _ rfl (fun hb77 => ?_) (fun hb77 => ?_)
   ·have h:=cond_t hb77 h
    refine ht_skip ?_
    refine pt_then (ht_seq ?_)
    refine ht_block ?_
    refine ht_seq ?_
    obtain ⟨v2, hv2, h⟩:=zn h
    obtain ⟨v3, hv3, h⟩:=zn h
    refine yx hn 3 ?_
    refine ys 0 ⟨lI hv2⟩ ?_
    refine yS (.agg (T_Mail.c v3 [])) 0 ⟨op_loadA_fr _ _ _ _ _ _ _ _ underlying46 rfl sz46 rfl rfl (gflat_get T_Mail.ilen hv3) (.cons (.v _) (.cons (.v _) (.cons (.v _) (.cons (.fl _ _ rfl) (.cons (.fl _ _ rfl) (.cons (.v _) (.cons (.v _) (.cons (.v _) (.nil))))))))) rfl (by decide)⟩ ?_
    refine yS (.box 46 [vb false,vs z0,vs z0,vz,vz,vb false,vs z0,vi 0]) 1 ⟨oA (op_alloc _ _ zr46)⟩ ?_
    refine yee [1,3,4,5] ?_
    refine ht_seq ?_
    obtain ⟨v4, hv4, h⟩:=zn h
    obtain ⟨v5, hv5, h⟩:=zn h
    obtain ⟨v6, hv6, h⟩:=zn h
    obtain ⟨v7, hv7, h⟩:=zn h
    refine yx hn 0 ?_
    refine ym 2 ?_
    refine ys 0 ⟨lk call54 (ok_wherryref11_Text _ _ hv4)⟩ ?_
    refine ys 0 ⟨lB (cat_ok hv5)⟩ ?_
    refine ys 0 ⟨lB (cat_ok hv6)⟩ ?_
    refine yk [19] [24] ?_
    refine ytt (19,.any) (25,.fl (.own 5) 1 (map (int .u8) v7)) 0 ⟨op_apps _ _ _ _ _ el25 zr5 underlying9 rfl rfl rfl hv7 rfl⟩ ?_
    refine ya 0 ?_
    refine yee [1,4,5,3] ?_
    refine ht_seq ?_
    refine yyy hn 1 [1,4,5,3,6] ?_
    refine ht_loopS h (fun ((s82,s83):(List Int)×Int)=>[(1,.box 24 [vi b.Origin,vi b.Number,.fr .shr true 8 (flatten (map T_Mail.ienc b.Mails))]),(4,vi s53),(5,.box 46 (T_Mail.c v3 [])),(3,.fl (.own 5) 1 (map (int .u8) s82)),(6,vi s83)]) (fun (s85:(List Int))=>[(1,.box 24 [vi b.Origin,vi b.Number,.fr .shr true 8 (flatten (map T_Mail.ienc b.Mails))]),(4,vi s53),(5,.box 46 (T_Mail.c v3 [])),(3,.fl (.own 5) 1 (map (int .u8) s85))]) ?_ ?_
    ·rintro s85 h
     refine pt_then ?_
     obtain ⟨v30, hv30, h⟩:=zn h
     obtain ⟨v31, hv31, h⟩:=zn h
     obtain ⟨v32, hv32, h⟩:=zn h
     refine wb [] ?_
     refine wK [3] [] ?_
     refine wt [(43,.fl (.own 5) 1 (map (int .u8) s85))] [] ⟨op_move_take _ _ _ _ rfl⟩ ?_
     refine wK [43] [] ?_
     refine wt [(43,.any),(44,.fl (.own 5) 1 (map (int .u8) v30))] [[5],[45,5]] ⟨op_apps _ _ _ _ _ el25 zr5 underlying9 rfl rfl rfl hv30 rfl⟩ ?_
     refine wN [46] ?_
     refine wo [] ⟨lk call55 (ok_wherryref11_Stuff _ _ hv31)⟩ ?_
     refine wK [44] [47] ?_
     refine wt [(44,.any),(48,.fl (.own 5) 1 (map (int .u8) v32))] [] ⟨op_app _ _ _ _ _ el25 rfl rfl (map_len _) (map_len _) hv32 ((List.map_append).symm.trans (congrArg (map _) (app_eq hv32)))⟩ ?_
     refine wK [48] [] ?_
     refine wt [(3,.fl (.own 5) 1 (map (int .u8) v32))] [] ⟨op_assign_take _ _ _ _ rfl⟩ ?_
     refine we hn [1,4,3] ?_
     refine pt_inb ?_
     refine pt_then ?_
     obtain ⟨v33, hv33, h⟩:=zn h
     refine yx hn 1 ?_
     refine ys 0 ⟨lb hv33⟩ ?_
     refine yw [4] 1 ?_
     refine ye [1,3,4] ?_
     exact pt_next _ (zi h).symm rfl
    ·rintro u86 hl87 hr88 ⟨s82, s83⟩ rr91 h ho89
     refine ht_seq ?_
     refine yyy hn 5 [1,4,5,3,6,30] ?_
     refine ht_cond _ rfl (fun hb92 => ?_) (fun hb92 => ?_)
     ·have h:=cond_t hb92 h
      refine ht_skip ?_
      refine pt_then (ht_seq ?_)
      refine ht_block ?_
      obtain ⟨v9, hv9, h⟩:=zn h
      obtain ⟨v10, hv10, h⟩:=zn h
      obtain ⟨v11, hv11, h⟩:=zn h
      obtain ⟨v12, hv12, h⟩:=zn h
      obtain ⟨v13, hv13, h⟩:=zn h
      obtain ⟨v14, hv14, h⟩:=zn h
      refine yx hn 0 ?_
      refine ym 3 ?_
      refine ys 0 ⟨lj hv9⟩ ?_
      refine yS (.agg [vb v10.Null,vs v10.Local,vs v10.Domain]) 0 ⟨op_load_eA _ _ _ _ _ _ _ underlying43 rfl sz43 rfl rfl (flat_get T_Path.len hv10) rfl (by decide)⟩ ?_
      refine ys 0 ⟨lk call54 (ok_wherryref11_Text _ _ hv11)⟩ ?_
      refine ys 0 ⟨lB (cat_ok hv12)⟩ ?_
      refine ys 0 ⟨lB (cat_ok hv13)⟩ ?_
      refine yk [33] [41] ?_
      refine ytt (33,.any) (42,.fl (.own 5) 1 (map (int .u8) v14)) 0 ⟨op_apps _ _ _ _ _ el25 zr5 underlying9 rfl rfl rfl hv14 rfl⟩ ?_
      refine ya 0 ?_
      refine ye [1,4,5,6,3] ?_
      refine pt_inb ?_
      refine pt_then ?_
      obtain ⟨v15, hv15, h⟩:=zn h
      refine yx hn 1 ?_
      refine ys 0 ⟨lb hv15⟩ ?_
      refine yw [6] 1 ?_
      refine ye [1,4,5,3,6] ?_
      exact pt_next _ (zi h).symm rfl
     ·have h:=cond_f hb92 h
      refine ht_exit ?_
      refine pt_x_then ?_
      refine pt_x_then ?_
      refine pt_x_in ?_
      refine pt_pick [0,1,2,3] (by kernel_rfl) (es':=[(_,_),(_,_),(_,_),(_,_)]) rfl ?_
      exact hl87 _ (ho89 _ (zi h).symm).symm
   ·have h:=cond_f hb77 h
    refine ht_exit ?_
    refine pt_x_then ?_
    refine pt_x_then ?_
    refine pt_x_in ?_
    refine pt_pick [1] (by kernel_rfl) (es':=[(_,_)]) rfl ?_
    exact hl72 _ (ho74 _ (zi h).symm).symm
theorem ok_wherryref11_Digits (n:Int) (r:ByteArray) (h:Sh.wherryref11_Digits n=some r):FnOK Tryz.prog 27 [.v (.int .i64 n)] (.v (.string r)):=by
  unfold Sh.wherryref11_Digits at h
  refine yO 22 func27 fun g0 hn hio => ?_
  refine yyy hn 1 [0] ?_
  refine yyy hn 1 [0,3] ?_
  refine ht_seq ?_
  refine ht_loopS h (fun ((s11,s12):Int×ByteArray)=>[(0,vi s11),(3,vs s12)]) (fun ((s14,s15):Int×ByteArray)=>[(0,vi s14),(3,vs s15)]) ?_ ?_
  ·rintro ⟨s14, s15⟩ h
   refine pt_then (ht_seq ?_)
   obtain ⟨v23, hv23, h⟩:=zn h
   obtain ⟨v24, hv24, h⟩:=zn h
   obtain ⟨v25, hv25, h⟩:=zn h
   refine yx hn 2 ?_
   refine ys 0 ⟨lb hv23⟩ ?_
   refine yS (vs v24) 1 ⟨op_substr _ _ _ s14 v23 _ underlying9 rfl ⟨_,rfl⟩ ⟨_,rfl⟩ hv24⟩ ?_
   refine ys 1 ⟨lB (cat_ok hv25)⟩ ?_
   refine yee [2] ?_
   refine ht_ret ?_
   obtain rfl:=zi h
   exact pt_ret hio rfl (.tmp _ _ .nil) rfl rfl
  ·rintro u16 hl17 hr18 ⟨s11, s12⟩ rr21 h ho19
   refine ht_seq ?_
   refine yyy hn 2 [0,3,5] ?_
   refine ht_cond _ rfl (fun hb22 => ?_) (fun hb22 => ?_)
   ·have h:=cond_t hb22 h
    refine ht_skip ?_
    refine pt_then ?_
    refine ht_block ?_
    refine ht_seq ?_
    obtain ⟨v2, hv2, h⟩:=zn h
    obtain ⟨v3, hv3, h⟩:=zn h
    obtain ⟨v4, hv4, h⟩:=zn h
    obtain ⟨v5, hv5, h⟩:=zn h
    obtain ⟨v6, hv6, h⟩:=zn h
    refine yx hn 1 ?_
    refine ys 1 ⟨lB (rem_ok hv2)⟩ ?_
    refine ys 0 ⟨lB (rem_ok hv3)⟩ ?_
    refine ys 0 ⟨lb hv4⟩ ?_
    refine yS (vs v5) 1 ⟨op_substr _ _ _ v2 v4 _ underlying9 rfl ⟨_,rfl⟩ ⟨_,rfl⟩ hv5⟩ ?_
    refine ys 0 ⟨lB (cat_ok hv6)⟩ ?_
    refine yw [3] 1 ?_
    refine yee [0,3] ?_
    obtain ⟨v7, hv7, h⟩:=zn h
    refine yx hn 1 ?_
    refine ys 0 ⟨lB (quo_ok hv7)⟩ ?_
    refine yw [0] 1 ?_
    refine ye [3,0] ?_
    refine pt_inb ?_
    refine pt_pick [1,0] (by kernel_rfl) (es':=[(_,_),(_,_)]) rfl ?_
    exact pt_next _ (zi h).symm rfl
   ·have h:=cond_f hb22 h
    refine ht_exit ?_
    refine pt_x_then ?_
    refine pt_x_then ?_
    refine pt_x_in ?_
    refine pt_pick [0,1] (by kernel_rfl) (es':=[(_,_),(_,_)]) rfl ?_
    exact hl17 _ (ho19 _ (zi h).symm).symm
end Go.Proofs.YtglabbpbianmnaaGreatDoor
