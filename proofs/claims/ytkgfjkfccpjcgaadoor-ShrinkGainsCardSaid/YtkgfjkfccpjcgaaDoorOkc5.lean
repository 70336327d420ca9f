/-
  The model's runs are what is told in Lean.
-/
import Derived.Test.YtkgfjkfccpjcgaaDoorProg
import Derived.KernelRfl
import Derived.Test.YtkgfjkfccpjcgaaDoorShelf
import Derived.Test.YtkgfjkfccpjcgaaDoorB2
import Derived.Test.YtkgfjkfccpjcgaaDoorB4
import Derived.Test.YtkgfjkfccpjcgaaDoorB5
import Derived.Test.YtkgfjkfccpjcgaaDoorB8
import Derived.Test.YtkgfjkfccpjcgaaDoorSrt
import Derived.Test.YtkgfjkfccpjcgaaDoorB9
import Derived.Test.YtkgfjkfccpjcgaaDoorShr
import Derived.Test.YtkgfjkfccpjcgaaDoorC1
import Derived.Test.YtkgfjkfccpjcgaaDoorOkc4
set_option linter.unusedVariables false
set_option linter.unusedSimpArgs false
set_option maxHeartbeats 1000000
namespace Go.Proofs.YtkgfjkfccpjcgaaDoor
open Go.Abs Go.Abs.Sh Tryd
open List (map flatten)
open Value (int)
theorem ok_wherryref01_reader_stored (p_r:T_wherryref01_reader) (r:T_wherryref01_reader) (h:Sh.wherryref01_reader_stored p_r=some r):FnP Tryd.prog 41 [.box 67 [.fl .shr 1 (map (int .u8) p_r.b), .v (.int .i64 p_r.at_), .v (.int .i64 p_r.bad), .fl (.own 5) 1 (map (int .u8) p_r.out), .v (.int .i64 p_r.most)]] [.box 67 [.fl .shr 1 (map (int .u8) r.b), .v (.int .i64 r.at_), .v (.int .i64 r.bad), .fl (.own 5) 1 (map (int .u8) r.out), .v (.int .i64 r.most)]] (.tup []):=by
  unfold Sh.wherryref01_reader_stored at h
  refine yP 75 func41 fun args0 hargs0 g0 hn hio => ?_
  refine ht_seq ?_
  refine ht_loopS h (fun ((s39,s40,s41,s42,s43):(List Int)×Int×Int×(List Int)×Int)=>[(0,.box 67 [fb s39,vi s40,vi s41,.fl (.own 5) 1 (map (int .u8) s42),vi s43]),(0,.v (List.getD args0 0 undef))]) (fun ((s59,s60,s61,s62,s63):(List Int)×Int×Int×(List Int)×Int)=>[(0,.box 67 [fb s59,vi s60,vi s61,.fl (.own 5) 1 (map (int .u8) s62),vi s63]),(0,.v (List.getD args0 0 undef))]) ?_ ?_
  ·rintro ⟨s59, s60, s61, s62, s63⟩ h
   refine pt_then (ht_seq ?_)
   obtain ⟨v85, hv85, h⟩:=zn h
   refine yx hn 1 ?_
   refine yq call40 (ok_wherryref01_reader_get _ _ _ hv85) 0 [24] 1 ?_
   refine yee [0,2,0] ?_
   refine ht_seq ?_
   refine ht_joinS h (fun ((s94,s95,s96,s97,s98):(List Int)×Int×Int×(List Int)×Int)=>[(0,.box 67 [fb s94,vi s95,vi s96,.fl (.own 5) 1 (map (int .u8) s97),vi s98]),(2,vi v85.1),(0,.v (List.getD args0 0 undef))]) ?_ ?_
   ·rintro ⟨s94, s95, s96, s97, s98⟩ h
    refine pt_then ?_
    refine yyy hn 1 [0,2,4,0] ?_
    refine ht_loopS h (fun ((s184,s185,s186,s187,s188,s189):(List Int)×Int×Int×(List Int)×Int×Int)=>[(0,.box 67 [fb s184,vi s185,vi s186,.fl (.own 5) 1 (map (int .u8) s187),vi s188]),(2,vi v85.1),(4,vi s189),(0,.v (List.getD args0 0 undef))]) (fun ((s223,s224,s225,s226,s227):(List Int)×Int×Int×(List Int)×Int)=>[(0,.box 67 [fb s223,vi s224,vi s225,.fl (.own 5) 1 (map (int .u8) s226),vi s227]),(0,.v (List.getD args0 0 undef))]) ?_ ?_
    ·rintro ⟨s223, s224, s225, s226, s227⟩ h
     obtain rfl:=zi h
     exact pt_endP (es:=[]) (posts:=[.box 67 [fb s223,.v (.int .i64 s224),.v (.int .i64 s225),.fl (.own 5) 1 (map (int .u8) s226),.v (.int .i64 s227)]]) hio rfl rfl .nil rfl rfl hargs0 rfl
    ·rintro u228 hl229 hr230 ⟨s184, s185, s186, s187, s188, s189⟩ rr233 h ho231
     refine ht_seq ?_
     refine ht_seq ?_
     refine ht_joinS h (fun (s234:Bool)=>[(0,.box 67 [fb s184,vi s185,vi s186,.fl (.own 5) 1 (map (int .u8) s187),vi s188]),(2,vi v85.1),(4,vi s189),(50,vb s234),(0,.v (List.getD args0 0 undef))]) ?_ ?_
     ·rintro s234 h
      refine pt_then ?_
      refine ht_cond _ rfl (fun hb238 => ?_) (fun hb238 => ?_)
      ·have h:=cond_t hb238 h
       refine ht_skip ?_
       refine pt_then (ht_seq ?_)
       refine ht_joinS h (fun ((s249,s250,s251,s252,s253):(List Int)×(List Int)×Int×Int×Int)=>[(0,.box 67 [fb s250,vi s251,vi s252,.fl (.own 5) 1 (map (int .u8) s249),vi s253]),(2,vi v85.1),(4,vi s189),(0,.v (List.getD args0 0 undef))]) ?_ ?_
       ·rintro ⟨s249, s250, s251, s252, s253⟩ h
        refine pt_then ?_
        obtain ⟨v144, hv144, h⟩:=zn h
        refine yx hn 1 ?_
        refine ys 0 ⟨lb hv144⟩ ?_
        refine yw [4] 1 ?_
        refine ye [0,2,4,0] ?_
        exact pt_next _ (zi h).symm rfl
       ·intro u254 h hl255 hr256
        refine ht_block ?_
        refine ht_seq ?_
        obtain ⟨v112, hv112, h⟩:=zn h
        refine yx hn 1 ?_
        refine yq call40 (ok_wherryref01_reader_get _ _ _ hv112) 0 [53] 1 ?_
        refine yee [0,2,4,5,0] ?_
        refine ht_seq ?_
        refine ht_joinS h (fun ((s257,s258,s259,s260,s261,s262):(List Int)×Int×Int×(List Int)×Int×Bool)=>[(0,.box 67 [fb s257,vi s258,vi s259,.fl (.own 5) 1 (map (int .u8) s260),vi s261]),(2,vi v85.1),(4,vi s189),(5,vi v112.1),(63,vb s262),(0,.v (List.getD args0 0 undef))]) ?_ ?_
        ·rintro ⟨s257, s258, s259, s260, s261, s262⟩ h
         refine pt_then ?_
         refine ht_cond _ rfl (fun hb266 => ?_) (fun hb266 => ?_)
         ·have h:=cond_t hb266 h
          obtain ⟨v124, hv124, h⟩:=zn h
          obtain ⟨v125, hv125, h⟩:=zn h
          refine yx hn 6 ?_
          refine ys 0 ⟨lv hv124⟩ ?_
          refine yS (.fl (.own 5) 1 (map (int .u8) [v124])) 0 ⟨op_buildSlice _ _ 1 (.int .u8 0) (map (int .u8) [v124]) [(0,.int .u8 v124)] underlying22 sz5 zr5 (fun _ V w o a hv hes=>by have e0:=rd_v hv hes (x := .tmp 70) rfl; simp only [List.map_toArray,List.map_cons,List.map_nil,e0]; try rfl) (litfill (by simp [Instr.fill,Value.cells]; rfl) (by simp [List.range,List.range.loop] <;> rfl)) (by simp [Value.oneCell']) rfl (by decide) (by decide) (by decide)⟩ ?_
          refine yk [0] [68,71] ?_
          refine ytt (0,.box 67 [fb s257,vi s258,vi s259,.any,vi s261]) (72,.fl (.own 5) 1 (map (int .u8) v125)) 2 ⟨op_app_cell _ _ _ _ _ _ el22 rfl rfl (zl rfl) rfl (map_len _) (map_len _) hv125 ((List.map_append).symm.trans (congrArg (map _) (app_eq hv125))) (Nat.ne_of_beq_eq_false rfl) rfl rfl⟩ ?_
          refine yw [68] 0 ?_
          refine yk [72,0] [74] ?_
          refine yt (0,.box 67 [fb s257,vi s258,vi s259,.fl (.own 5) 1 (map (int .u8) v125),vi s261]) 0 ⟨op_store_take _ _ _ _ _ _ _ _ sz22 rfl rfl rfl (zl rfl) rfl rfl⟩ ?_
          refine ye [0,2,4,0] ?_
          refine pt_inb ?_
          exact hl255 _ (zi h).symm
         ·have h:=cond_f hb266 h
          refine ht_skip ?_
          refine pt_inb ?_
          refine pt_pick [0,1,2,5] (by kernel_rfl) (es':=[(_,_),(_,_),(_,_),(_,_)]) rfl ?_
          exact hl255 _ (zi h).symm
        ·intro u263 h hl264 hr265
         refine cond_some h (fun hg11_5 h => ?_) (fun hg11_5 h => ?_)
         ·obtain ⟨v113, hv113, h⟩:=zn h
          refine yx hn 6 ?_
          refine yd hg11_5 1 ?_
          refine yq call75 (ok_wherryref01_reader_room _ _ _ hv113) 0 [61] 1 ?_
          refine ye [0,2,4,5,63,0] ?_
          exact hl264 _ (zi h).symm
         ·refine yx hn 6 ?_
          refine yd hg11_5 3 ?_
          refine ye [0,2,4,5,63,0] ?_
          exact hl264 _ (zi h).symm
      ·have h:=cond_f hb238 h
       refine ht_exit ?_
       refine pt_x_then ?_
       refine pt_x_then ?_
       refine pt_x_in ?_
       refine pt_pick [0,4] (by kernel_rfl) (es':=[(_,_),(_,_)]) rfl ?_
       exact hl229 _ (ho231 _ (zi h).symm).symm
     ·intro u235 h hl236 hr237
      refine cond_some h (fun hg8_3 h => ?_) (fun hg8_3 h => ?_)
      ·refine yx hn 4 ?_
       refine yd hg8_3 6 ?_
       refine ye [0,2,4,50,0] ?_
       exact hl236 _ (zi h).symm
      ·refine yx hn 4 ?_
       refine yd hg8_3 6 ?_
       refine ye [0,2,4,50,0] ?_
       exact hl236 _ (zi h).symm
   ·intro u99 h hl100 hr101
    refine ht_seq ?_
    obtain ⟨v86, hv86, h⟩:=zn h
    refine yx hn 1 ?_
    refine yq call40 (ok_wherryref01_reader_get _ _ _ hv86) 0 [26] 1 ?_
    refine yee [0,2,3,0] ?_
    refine ht_seq ?_
    refine ht_joinS h (fun (s102:Bool)=>[(0,.box 67 [fb v86.2.b,vi v86.2.at_,vi v86.2.bad,.fl (.own 5) 1 (map (int .u8) v86.2.out),vi v86.2.most]),(2,vi v85.1),(38,vb s102),(0,.v (List.getD args0 0 undef))]) ?_ ?_
    ·rintro s102 h
     refine pt_then ?_
     refine ht_cond _ rfl (fun hb106 => ?_) (fun hb106 => ?_)
     ·have h:=cond_t hb106 h
      obtain ⟨v93, hv93, h⟩:=zn h
      refine yx hn 1 ?_
      refine yq call44 (ok_wherryref01_reader_none _ _ hv93) 0 [39] 0 ?_
      refine ye [0,2,0] ?_
      exact hl100 _ (zi h).symm
     ·have h:=cond_f hb106 h
      refine ht_skip ?_
      refine pt_pick [0,1,3] (by kernel_rfl) (es':=[(_,_),(_,_),(_,_)]) rfl ?_
      exact hl100 _ (zi h).symm
    ·intro u103 h hl104 hr105
     refine cond_some h (fun hg5_5 h => ?_) (fun hg5_5 h => ?_)
     ·obtain ⟨v87, hv87, h⟩:=zn h
      refine yx hn 6 ?_
      refine yd hg5_5 2 ?_
      refine ys 2 ⟨lb hv87⟩ ?_
      refine ye [0,2,38,0] ?_
      exact hl104 _ (zi h).symm
     ·refine yx hn 6 ?_
      refine yd hg5_5 5 ?_
      refine ye [0,2,38,0] ?_
      exact hl104 _ (zi h).symm
  ·rintro u64 hl65 hr66 ⟨s39, s40, s41, s42, s43⟩ rr69 h ho67
   refine ht_seq ?_
   refine ht_seq ?_
   refine ht_joinS h (fun (s70:Bool)=>[(0,.box 67 [fb s39,vi s40,vi s41,.fl (.own 5) 1 (map (int .u8) s42),vi s43]),(18,vb s70),(0,.v (List.getD args0 0 undef))]) ?_ ?_
   ·rintro s70 h
    refine pt_then ?_
    refine ht_cond _ rfl (fun hb74 => ?_) (fun hb74 => ?_)
    ·have h:=cond_t hb74 h
     refine ht_skip ?_
     refine pt_then ?_
     refine ht_joinS h (fun ((s76,s77,s78,s79,s80):(List Int)×Int×Int×(List Int)×Int)=>[(0,.box 67 [fb s76,vi s77,vi s78,.fl (.own 5) 1 (map (int .u8) s79),vi s80]),(0,.v (List.getD args0 0 undef))]) ?_ ?_
     ·rintro ⟨s76, s77, s78, s79, s80⟩ h
      exact pt_next _ (zi h).symm rfl
     ·intro u81 h hl82 hr83
      refine ht_block ?_
      refine ht_seq ?_
      obtain ⟨v7, hv7, h⟩:=zn h
      refine yx hn 1 ?_
      refine yq call40 (ok_wherryref01_reader_get _ _ _ hv7) 0 [19] 1 ?_
      refine yee [0,21,0] ?_
      refine ht_cond _ rfl (fun hb84 => ?_) (fun hb84 => ?_)
      ·have h:=cond_t hb84 h
       obtain ⟨v9, hv9, h⟩:=zn h
       refine yx hn 1 ?_
       refine yq call44 (ok_wherryref01_reader_none _ _ hv9) 0 [22] 0 ?_
       refine ye [0,0] ?_
       refine pt_inb ?_
       exact hl82 _ (zi h).symm
      ·have h:=cond_f hb84 h
       refine ht_skip ?_
       refine pt_inb ?_
       refine pt_pick [0,2] (by kernel_rfl) (es':=[(_,_),(_,_)]) rfl ?_
       exact hl82 _ (zi h).symm
    ·have h:=cond_f hb74 h
     refine ht_exit ?_
     refine pt_x_then ?_
     refine pt_x_then ?_
     refine pt_x_in ?_
     refine pt_pick [0,2] (by kernel_rfl) (es':=[(_,_),(_,_)]) rfl ?_
     exact hl65 _ (ho67 _ (zi h).symm).symm
   ·intro u71 h hl72 hr73
    refine cond_some h (fun hg0_5 h => ?_) (fun hg0_5 h => ?_)
    ·obtain ⟨v1, hv1, h⟩:=zn h
     refine yx hn 6 ?_
     refine yd hg0_5 4 ?_
     refine ys 2 ⟨lB (rem_ok hv1)⟩ ?_
     refine ye [0,18,0] ?_
     exact hl72 _ (zi h).symm
    ·refine yx hn 6 ?_
     refine yd hg0_5 7 ?_
     refine ye [0,18,0] ?_
     exact hl72 _ (zi h).symm
theorem ok_wherryref01_Fixed (r:((List Int)×(List Int))) (h:Sh.wherryref01_Fixed  = some r):FnOK Tryd.prog 29 [] (.tup [.fl (.own 3) 1 (map (int .i64) r.1), .fl (.own 3) 1 (map (int .i64) r.2)]):=by
  unfold Sh.wherryref01_Fixed at h
  refine yO 40 func29 fun g0 hn hio => ?_
  refine yyy hn 2 [] ?_
  refine yyy hn 2 [2,3] ?_
  refine ht_seq ?_
  refine yyy hn 1 [2,3,4] ?_
  refine ht_sub (fs:=[(2,.fl (.own 3) 1 (map (int .i64) [])),(3,vz),(4,vi 0)]) (.sub _ (sub_nil 3 1) rfl (.same _ (.same _ .nil))) ?_
  refine ht_loopS h (fun ((s58,s59):(List Int)×Int)=>[(2,.fl (.own 3) 1 (map (int .i64) s58)),(3,vz),(4,vi s59)]) (fun (s85:(List Int))=>[(2,.fl (.own 3) 1 (map (int .i64) s85)),(3,vz)]) ?_ ?_
  ·rintro s85 h
   refine pt_then (ht_seq ?_)
   refine yyy hn 1 [2,3,5] ?_
   refine ht_sub (fs:=[(2,.fl (.own 3) 1 (map (int .i64) s85)),(3,.fl (.own 3) 1 (map (int .i64) [])),(5,vi 0)]) (.same _ (.sub _ (sub_nil 3 1) rfl (.same _ .nil))) ?_
   refine ht_loopS h (fun ((s123,s124):(List Int)×Int)=>[(2,.fl (.own 3) 1 (map (int .i64) s85)),(3,.fl (.own 3) 1 (map (int .i64) s123)),(5,vi s124)]) (fun (s126:(List Int))=>[(2,.fl (.own 3) 1 (map (int .i64) s85)),(3,.fl (.own 3) 1 (map (int .i64) s126))]) ?_ ?_
   ·rintro s126 h
    refine pt_then ?_
    refine yxx hn 0 ?_
    refine ym 0 ?_
    refine ym 0 ?_
    refine ya 0 ?_
    refine ya 0 ?_
    refine yee [0,1] ?_
    refine ht_ret ?_
    obtain rfl:=zi h
    exact pt_ret hio rfl (.tmp _ _ (.tmp _ _ .nil)) rfl rfl
   ·rintro u127 hl128 hr129 ⟨s123, s124⟩ rr132 h ho130
    refine ht_seq ?_
    refine yyy hn 2 [2,3,5,32] ?_
    refine ht_cond _ rfl (fun hb133 => ?_) (fun hb133 => ?_)
    ·have h:=cond_t hb133 h
     refine ht_skip ?_
     refine pt_then (ht_seq ?_)
     refine ht_block ?_
     obtain ⟨v118, hv118, h⟩:=zn h
     refine yx hn 0 ?_
     refine ym 0 ?_
     refine yS (.fl (.own 3) 1 (map (int .i64) [5])) 0 ⟨op_buildSlice _ _ 1 (.int .i64 0) (map (int .i64) [5]) [(0,.int .i64 5)] underlying37 sz3 zr3 (fun _ V w o a hv hes=>by simp only [List.map_toArray,List.map_cons,List.map_nil]; try rfl) (litfill (by simp [Instr.fill,Value.cells]; rfl) (by simp [List.range,List.range.loop] <;> rfl)) (by simp [Value.oneCell']) rfl (by decide) (by decide) (by decide)⟩ ?_
     refine yp el37 hv118 0 ?_
     refine ya 0 ?_
     refine ye [2,5,3] ?_
     refine pt_inb ?_
     refine pt_then ?_
     obtain ⟨v119, hv119, h⟩:=zn h
     refine yx hn 1 ?_
     refine ys 0 ⟨lb hv119⟩ ?_
     refine yw [5] 1 ?_
     refine ye [2,3,5] ?_
     exact pt_next _ (zi h).symm rfl
    ·have h:=cond_f hb133 h
     refine ht_exit ?_
     refine pt_x_then ?_
     refine pt_x_then ?_
     refine pt_x_in ?_
     refine pt_pick [0,1] (by kernel_rfl) (es':=[(_,_),(_,_)]) rfl ?_
     exact hl128 _ (ho130 _ (zi h).symm).symm
  ·rintro u86 hl87 hr88 ⟨s58, s59⟩ rr91 h ho89
   refine ht_seq ?_
   refine yyy hn 2 [2,3,4,7] ?_
   refine ht_cond _ rfl (fun hb92 => ?_) (fun hb92 => ?_)
   ·have h:=cond_t hb92 h
    refine ht_skip ?_
    refine pt_then (ht_seq ?_)
    refine ht_joinS h (fun (s103:(List Int))=>[(3,vz),(4,vi s59),(2,.fl (.own 3) 1 (map (int .i64) s103))]) ?_ ?_
    ·rintro s103 h
     refine pt_then ?_
     obtain ⟨v30, hv30, h⟩:=zn h
     refine yx hn 1 ?_
     refine ys 0 ⟨lb hv30⟩ ?_
     refine yw [4] 1 ?_
     refine ye [3,2,4] ?_
     refine pt_pick [1,0,2] (by kernel_rfl) (es':=[(_,_),(_,_),(_,_)]) rfl ?_
     exact pt_next _ (zi h).symm rfl
    ·intro u104 h hl105 hr106
     refine ht_block ?_
     refine ht_joinS h (fun (s110:(List Int))=>[(3,vz),(4,vi s59),(2,.fl (.own 3) 1 (map (int .i64) s110))]) ?_ ?_
     ·rintro s110 h
      refine pt_inb ?_
      exact hl105 _ (zi h).symm
     ·intro u111 h hl112 hr113
      refine ht_block ?_
      refine yyy hn 3 [2,3,4,13] ?_
      refine ht_cond _ rfl (fun hb114 => ?_) (fun hb114 => ?_)
      ·have h:=cond_t hb114 h
       obtain ⟨v3, hv3, h⟩:=zn h
       refine yx hn 0 ?_
       refine ym 0 ?_
       refine yS (.fl (.own 3) 1 (map (int .i64) [8])) 0 ⟨op_buildSlice _ _ 1 (.int .i64 0) (map (int .i64) [8]) [(0,.int .i64 8)] underlying37 sz3 zr3 (fun _ V w o a hv hes=>by simp only [List.map_toArray,List.map_cons,List.map_nil]; try rfl) (litfill (by simp [Instr.fill,Value.cells]; rfl) (by simp [List.range,List.range.loop] <;> rfl)) (by simp [Value.oneCell']) rfl (by decide) (by decide) (by decide)⟩ ?_
       refine yp el37 hv3 0 ?_
       refine ya 0 ?_
       refine ye [3,4,2] ?_
       refine pt_inb ?_
       exact hl112 _ (zi h).symm
      ·have h:=cond_f hb114 h
       refine yyy hn 3 [2,3,4,19] ?_
       refine ht_cond _ rfl (fun hb115 => ?_) (fun hb115 => ?_)
       ·have h:=cond_t hb115 h
        obtain ⟨v5, hv5, h⟩:=zn h
        refine yx hn 0 ?_
        refine ym 0 ?_
        refine yS (.fl (.own 3) 1 (map (int .i64) [9])) 0 ⟨op_buildSlice _ _ 1 (.int .i64 0) (map (int .i64) [9]) [(0,.int .i64 9)] underlying37 sz3 zr3 (fun _ V w o a hv hes=>by simp only [List.map_toArray,List.map_cons,List.map_nil]; try rfl) (litfill (by simp [Instr.fill,Value.cells]; rfl) (by simp [List.range,List.range.loop] <;> rfl)) (by simp [Value.oneCell']) rfl (by decide) (by decide) (by decide)⟩ ?_
        refine yp el37 hv5 0 ?_
        refine ya 0 ?_
        refine ye [3,4,2] ?_
        refine pt_inb ?_
        exact hl112 _ (zi h).symm
       ·have h:=cond_f hb115 h
        refine yyy hn 3 [2,3,4,25] ?_
        refine ht_cond _ rfl (fun hb116 => ?_) (fun hb116 => ?_)
        ·have h:=cond_t hb116 h
         obtain ⟨v7, hv7, h⟩:=zn h
         refine yx hn 0 ?_
         refine ym 0 ?_
         refine yS (.fl (.own 3) 1 (map (int .i64) [7])) 0 ⟨op_buildSlice _ _ 1 (.int .i64 0) (map (int .i64) [7]) [(0,.int .i64 7)] underlying37 sz3 zr3 (fun _ V w o a hv hes=>by simp only [List.map_toArray,List.map_cons,List.map_nil]; try rfl) (litfill (by simp [Instr.fill,Value.cells]; rfl) (by simp [List.range,List.range.loop] <;> rfl)) (by simp [Value.oneCell']) rfl (by decide) (by decide) (by decide)⟩ ?_
         refine yp el37 hv7 0 ?_
         refine ya 0 ?_
         refine ye [3,4,2] ?_
         refine pt_inb ?_
         exact hl112 _ (zi h).symm
        ·have h:=cond_f hb116 h
         obtain ⟨v8, hv8, h⟩:=zn h
         refine yx hn 0 ?_
         refine ym 0 ?_
         refine yS (.fl (.own 3) 1 (map (int .i64) [8])) 0 ⟨op_buildSlice _ _ 1 (.int .i64 0) (map (int .i64) [8]) [(0,.int .i64 8)] underlying37 sz3 zr3 (fun _ V w o a hv hes=>by simp only [List.map_toArray,List.map_cons,List.map_nil]; try rfl) (litfill (by simp [Instr.fill,Value.cells]; rfl) (by simp [List.range,List.range.loop] <;> rfl)) (by simp [Value.oneCell']) rfl (by decide) (by decide) (by decide)⟩ ?_
         refine yp el37 hv8 0 ?_
         refine ya 0 ?_
         refine ye [3,4,2] ?_
         refine pt_inb ?_
         exact hl112 _ (zi h).symm
   ·have h:=cond_f hb92 h
    refine ht_exit ?_
    refine pt_x_then ?_
    refine pt_x_then ?_
    refine pt_x_in ?_
    refine pt_pick [0,1] (by kernel_rfl) (es':=[(_,_),(_,_)]) rfl ?_
    exact hl87 _ (ho89 _ (zi h).symm).symm
theorem ok_wherryref01_codes (l:(List Int)) (r:(List Int)) (h:Sh.wherryref01_codes l=some r):FnOK Tryd.prog 71 [.fl .shr 1 (map (int .i64) l)] (.fl (.own 3) 1 (map (int .i64) r)):=by
  unfold Sh.wherryref01_codes at h
  refine yO 35 func71 fun g0 hn hio => ?_
  refine yyy hn 1 [0] ?_
  refine ht_seq ?_
  obtain ⟨v1, hv1, h⟩:=zn h
  refine yx hn 2 ?_
  refine yS (.fl (.own 3) 1 (map (int .i64) v1)) 0 ⟨op_mk (f:=int .i64) _ _ _ _ el37 (by decide) zr3 rfl rfl rfl hv1⟩ ?_
  refine ya 0 ?_
  refine yee [0,3] ?_
  refine yyy hn 1 [0,3,4] ?_
  refine ht_seq ?_
  refine yyy hn 1 [0,3,4,5] ?_
  refine ht_loopS h (fun ((s107,s108,s109):(List Int)×Int×Int)=>[(0,fi l),(3,.fl (.own 3) 1 (map (int .i64) s107)),(4,vi s108),(5,vi s109)]) (fun (s157:(List Int))=>[(3,.fl (.own 3) 1 (map (int .i64) s157))]) ?_ ?_
  ·rintro s157 h
   refine pt_then ?_
   refine yxx hn 0 ?_
   refine ym 0 ?_
   refine ya 0 ?_
   refine yee [2] ?_
   refine ht_ret ?_
   obtain rfl:=zi h
   exact pt_ret hio rfl (.tmp _ _ .nil) rfl rfl
  ·rintro u158 hl159 hr160 ⟨s107, s108, s109⟩ rr163 h ho161
   refine ht_seq ?_
   refine yyy hn 2 [0,3,4,5,11] ?_
   refine ht_cond _ rfl (fun hb164 => ?_) (fun hb164 => ?_)
   ·have h:=cond_t hb164 h
    refine ht_skip ?_
    refine pt_then (ht_seq ?_)
    refine ht_block ?_
    refine ht_seq ?_
    obtain ⟨v3, hv3, h⟩:=zn h
    refine yx hn 1 ?_
    refine ys 0 ⟨lb hv3⟩ ?_
    refine yw [4] 1 ?_
    refine yee [0,3,5,4] ?_
    refine yyy hn 1 [0,3,5,4,6] ?_
    refine ht_loopS h (fun ((s184,s185,s186):(List Int)×Int×Int)=>[(0,fi l),(3,.fl (.own 3) 1 (map (int .i64) s184)),(5,vi s109),(4,vi s185),(6,vi s186)]) (fun ((s195,s196):(List Int)×Int)=>[(0,fi l),(3,.fl (.own 3) 1 (map (int .i64) s195)),(5,vi s109),(4,vi s196)]) ?_ ?_
    ·rintro ⟨s195, s196⟩ h
     refine pt_inb ?_
     refine pt_then ?_
     obtain ⟨v56, hv56, h⟩:=zn h
     refine yx hn 1 ?_
     refine ys 0 ⟨lb hv56⟩ ?_
     refine yw [5] 1 ?_
     refine ye [0,3,4,5] ?_
     exact pt_next _ (zi h).symm rfl
    ·rintro u197 hl198 hr199 ⟨s184, s185, s186⟩ rr202 h ho200
     refine ht_seq ?_
     refine yyy hn 4 [0,3,5,4,6,19] ?_
     refine ht_cond _ rfl (fun hb203 => ?_) (fun hb203 => ?_)
     ·have h:=cond_t hb203 h
      refine ht_skip ?_
      refine pt_then (ht_seq ?_)
      refine ht_joinS h (fun ((s205,s206):(List Int)×Int)=>[(0,fi l),(3,.fl (.own 3) 1 (map (int .i64) s205)),(5,vi s109),(6,vi s186),(4,vi s206)]) ?_ ?_
      ·rintro ⟨s205, s206⟩ h
       refine pt_then ?_
       obtain ⟨v17, hv17, h⟩:=zn h
       refine yx hn 1 ?_
       refine ys 0 ⟨lb hv17⟩ ?_
       refine yw [6] 1 ?_
       refine ye [0,3,5,4,6] ?_
       exact pt_next _ (zi h).symm rfl
      ·intro u207 h hl208 hr209
       refine ht_block ?_
       refine ht_seq ?_
       obtain ⟨v5, hv5, h⟩:=zn h
       obtain ⟨v6, hv6, h⟩:=zn h
       refine yx hn 2 ?_
       refine ys 0 ⟨li hv5⟩ ?_
       refine ys 2 ⟨ll hv6⟩ ?_
       refine yee [0,3,5,4,6,27] ?_
       refine ht_cond _ rfl (fun hb210 => ?_) (fun hb210 => ?_)
       ·have h:=cond_t hb210 h
        refine ht_seq ?_
        obtain ⟨v8, hv8, h⟩:=zn h
        obtain ⟨v9, hv9, h⟩:=zn h
        refine yx hn 3 ?_
        refine ys 0 ⟨li hv8⟩ ?_
        refine yk [3] [31,30] ?_
        refine yt (3,.fl (.own 3) 1 (map (int .i64) v9)) 0 ⟨op_store_e _ _ _ _ _ _ _ _ sz3 rfl rfl rfl (by decide) (map_lt (ix_ok hv8).2) ((map_set (f:=int .i64) _ (ix_ok hv8).2).trans (congrArg (map _) (Option.some.inj hv9)))⟩ ?_
        refine yee [0,3,5,4,6] ?_
        obtain ⟨v10, hv10, h⟩:=zn h
        refine yx hn 1 ?_
        refine ys 0 ⟨lb hv10⟩ ?_
        refine yw [4] 1 ?_
        refine ye [0,3,5,6,4] ?_
        refine pt_inb ?_
        exact hl208 _ (zi h).symm
       ·have h:=cond_f hb210 h
        refine ht_skip ?_
        refine pt_inb ?_
        refine pt_pick [0,1,2,4,3] (by kernel_rfl) (es':=[(_,_),(_,_),(_,_),(_,_),(_,_)]) rfl ?_
        exact hl208 _ (zi h).symm
     ·have h:=cond_f hb203 h
      refine ht_exit ?_
      refine pt_x_then ?_
      refine pt_x_then ?_
      refine pt_x_in ?_
      refine pt_pick [0,1,2,3] (by kernel_rfl) (es':=[(_,_),(_,_),(_,_),(_,_)]) rfl ?_
      exact hl198 _ (ho200 _ (zi h).symm).symm
   ·have h:=cond_f hb164 h
    refine ht_exit ?_
    refine pt_x_then ?_
    refine pt_x_then ?_
    refine pt_x_in ?_
    refine pt_pick [1] (by kernel_rfl) (es':=[(_,_)]) rfl ?_
    exact hl159 _ (ho161 _ (zi h).symm).symm
theorem ok_wherryref01_read (l:(List Int)) (c:(List Int)) (b:(List Int)) (at_:Int) (r:(Int×Int)) (h:Sh.wherryref01_read l c b at_=some r):FnOK Tryd.prog 97 [.fl .shr 1 (map (int .i64) l), .fl .shr 1 (map (int .i64) c), .fl .shr 1 (map (int .u8) b), .v (.int .i64 at_)] (.tup [.v (.int .i64 r.1), .v (.int .i64 r.2)]):=by
  unfold Sh.wherryref01_read at h
  refine yO 59 func97 fun g0 hn hio => ?_
  refine yyy hn 2 [0,1,2,3] ?_
  refine yyy hn 1 [0,1,2,3,10] ?_
  refine ht_seq ?_
  refine yyy hn 1 [0,1,2,3,10,11] ?_
  refine ht_loopS h (fun ((s91,s92):Int×Int)=>[(0,fi l),(1,fi c),(2,fb b),(3,vi at_),(10,vi s91),(11,vi s92)]) (fun (():Unit)=>[]) ?_ ?_
  ·rintro ⟨⟩ h
   refine pt_then ?_
   refine yyy hn 2 [8,9] ?_
   refine ht_ret ?_
   obtain rfl:=zi h
   exact pt_ret hio rfl (.tmp _ _ (.tmp _ _ .nil)) rfl rfl
  ·rintro u130 hl131 hr132 ⟨s91, s92⟩ rr135 h ho133
   refine ht_seq ?_
   refine ht_seq ?_
   refine ht_joinS h (fun (s136:Bool)=>[(0,fi l),(1,fi c),(2,fb b),(3,vi at_),(10,vi s91),(11,vi s92),(23,vb s136)]) ?_ ?_
   ·rintro s136 h
    refine pt_then ?_
    refine ht_cond _ rfl (fun hb140 => ?_) (fun hb140 => ?_)
    ·have h:=cond_t hb140 h
     refine ht_skip ?_
     refine pt_then (ht_seq ?_)
     refine ht_block ?_
     refine ht_seq ?_
     obtain ⟨v8, hv8, h⟩:=zn h
     obtain ⟨v9, hv9, h⟩:=zn h
     obtain ⟨v10, hv10, h⟩:=zn h
     obtain ⟨v11, hv11, h⟩:=zn h
     obtain ⟨v12, hv12, h⟩:=zn h
     refine yx hn 1 ?_
     refine ys 3 ⟨lb hv8⟩ ?_
     refine ys 0 ⟨lb hv9⟩ ?_
     refine ys 0 ⟨lb hv10⟩ ?_
     refine ys 0 ⟨lk call96 (ok_wherryref01_bit _ _ _ hv11)⟩ ?_
     refine ys 0 ⟨lb hv12⟩ ?_
     refine yw [10] 1 ?_
     refine yee [0,1,2,3,11,10] ?_
     refine yyy hn 1 [0,1,2,3,11,10,12] ?_
     refine ht_loopS h (fun (s154:Int)=>[(0,fi l),(1,fi c),(2,fb b),(3,vi at_),(11,vi s92),(10,vi v12),(12,vi s154)]) (fun (():Unit)=>[(0,fi l),(1,fi c),(2,fb b),(3,vi at_),(11,vi s92),(10,vi v12)]) ?_ ?_
     ·rintro ⟨⟩ h
      refine pt_inb ?_
      refine pt_then ?_
      obtain ⟨v51, hv51, h⟩:=zn h
      refine yx hn 1 ?_
      refine ys 0 ⟨lb hv51⟩ ?_
      refine yw [11] 1 ?_
      refine ye [0,1,2,3,10,11] ?_
      exact pt_next _ (zi h).symm rfl
     ·rintro u161 hl162 hr163 s154 rr166 h ho164
      refine ht_seq ?_
      refine yyy hn 4 [0,1,2,3,11,10,12,38] ?_
      refine ht_cond _ rfl (fun hb167 => ?_) (fun hb167 => ?_)
      ·have h:=cond_t hb167 h
       refine ht_skip ?_
       refine pt_then (ht_seq ?_)
       refine ht_block ?_
       refine ht_seq ?_
       refine ht_joinS h (fun (s168:Bool)=>[(0,fi l),(1,fi c),(2,fb b),(3,vi at_),(11,vi s92),(10,vi v12),(12,vi s154),(54,vb s168)]) ?_ ?_
       ·rintro s168 h
        refine pt_then ?_
        refine ht_cond _ rfl (fun hb172 => ?_) (fun hb172 => ?_)
        ·have h:=cond_t hb172 h
         refine ht_seq ?_
         obtain ⟨v23, hv23, h⟩:=zn h
         refine yx hn 3 ?_
         refine ys 2 ⟨lb hv23⟩ ?_
         refine yee [8,9] ?_
         refine ht_ret ?_
         refine pt_r_in ?_
         refine pt_r_then ?_
         refine pt_r_then ?_
         refine pt_r_in ?_
         refine pt_r_in ?_
         refine pt_r_then ?_
         refine pt_r_then ?_
         refine pt_r_in ?_
         refine pt_r_then ?_
         have h:=hr163 _ (ho164 _ (zi h).symm).symm
         have h:=hr132 _ (ho133 _ (zi h).symm).symm
         obtain rfl:=zi h
         exact pt_ret hio rfl (.tmp _ _ (.tmp _ _ .nil)) rfl rfl
        ·have h:=cond_f hb172 h
         refine ht_skip ?_
         refine pt_inb ?_
         refine pt_then ?_
         obtain ⟨v24, hv24, h⟩:=zn h
         refine yx hn 1 ?_
         refine ys 0 ⟨lb hv24⟩ ?_
         refine yw [12] 1 ?_
         refine ye [0,1,2,3,11,10,12] ?_
         exact pt_next _ (zi h).symm rfl
       ·intro u169 h hl170 hr171
        obtain ⟨v14, hv14, h⟩:=zn h
        obtain ⟨v15, hv15, h⟩:=zn h
        refine cond_some h (fun hg9_6 h => ?_) (fun hg9_6 h => ?_)
        ·obtain ⟨v16, hv16, h⟩:=zn h
         obtain ⟨v17, hv17, h⟩:=zn h
         refine yx hn 2 ?_
         refine ys 0 ⟨li hv14⟩ ?_
         refine ys 3 ⟨ll hv15⟩ ?_
         refine yd hg9_6 2 ?_
         refine ys 0 ⟨li hv16⟩ ?_
         refine ys 3 ⟨ll hv17⟩ ?_
         refine ye [0,1,2,3,11,10,12,54] ?_
         exact hl170 _ (zi h).symm
        ·refine yx hn 2 ?_
         refine ys 0 ⟨li hv14⟩ ?_
         refine ys 3 ⟨ll hv15⟩ ?_
         refine yd hg9_6 7 ?_
         refine ye [0,1,2,3,11,10,12,54] ?_
         exact hl170 _ (zi h).symm
      ·have h:=cond_f hb167 h
       refine ht_exit ?_
       refine pt_x_then ?_
       refine pt_x_then ?_
       refine pt_x_in ?_
       refine pt_pick [0,1,2,3,4,5] (by kernel_rfl) (es':=[(_,_),(_,_),(_,_),(_,_),(_,_),(_,_)]) rfl ?_
       exact hl162 _ (ho164 _ (zi h).symm).symm
    ·have h:=cond_f hb140 h
     refine ht_exit ?_
     refine pt_x_then ?_
     refine pt_x_then ?_
     refine pt_x_in ?_
     refine pt_pick [] (by kernel_rfl) (es':=[]) rfl ?_
     exact hl131 _ (ho133 _ (zi h).symm).symm
   ·intro u137 h hl138 hr139
    refine cond_some h (fun hg3_2 h => ?_) (fun hg3_2 h => ?_)
    ·obtain ⟨v1, hv1, h⟩:=zn h
     obtain ⟨v2, hv2, h⟩:=zn h
     refine yx hn 3 ?_
     refine yd hg3_2 2 ?_
     refine ys 2 ⟨lb hv1⟩ ?_
     refine ys 2 ⟨lb hv2⟩ ?_
     refine ye [0,1,2,3,10,11,23] ?_
     exact hl138 _ (zi h).symm
    ·refine yx hn 3 ?_
     refine yd hg3_2 8 ?_
     refine ye [0,1,2,3,10,11,23] ?_
     exact hl138 _ (zi h).symm
theorem ok_wherryref01_reader_sym (p_r:T_wherryref01_reader) (l:(List Int)) (c:(List Int)) (r:(Int×T_wherryref01_reader)) (h:Sh.wherryref01_reader_sym p_r l c=some r):FnP Tryd.prog 76 [.box 67 [.fl .shr 1 (map (int .u8) p_r.b), .v (.int .i64 p_r.at_), .v (.int .i64 p_r.bad), .fl (.own 5) 1 (map (int .u8) p_r.out), .v (.int .i64 p_r.most)], .fl .shr 1 (map (int .i64) l), .fl .shr 1 (map (int .i64) c)] [.box 67 [.fl .shr 1 (map (int .u8) r.2.b), .v (.int .i64 r.2.at_), .v (.int .i64 r.2.bad), .fl (.own 5) 1 (map (int .u8) r.2.out), .v (.int .i64 r.2.most)]] (.v (.int .i64 r.1)):=by
  unfold Sh.wherryref01_reader_sym at h
  refine yP 37 func76 fun args0 hargs0 g0 hn hio => ?_
  refine yyy hn 1 [0,1,2,0] ?_
  refine ht_seq ?_
  refine yyy hn 5 [0,1,2,13,0] ?_
  refine ht_cond _ rfl (fun hb1 => ?_) (fun hb1 => ?_)
  ·have h:=cond_t hb1 h
   refine yyy hn 1 [0,6,0] ?_
   refine ht_ret ?_
   refine pt_pick [1,0,2] (by kernel_rfl) (es':=[(_,_),(_,_),(_,_)]) rfl ?_
   refine pt_r_then ?_
   obtain rfl:=zi h
   exact pt_retP (es:=[(6, .v (.int .i64 0))]) (posts:=[.box 67 [fb p_r.b,.v (.int .i64 p_r.at_),.v (.int .i64 p_r.bad),.fl (.own 5) 1 (map (int .u8) p_r.out),.v (.int .i64 p_r.most)]]) hio rfl rfl (.tmp _ _ .nil) rfl rfl hargs0 rfl
  ·have h:=cond_f hb1 h
   refine ht_skip ?_
   refine pt_then (ht_seq ?_)
   obtain ⟨v2, hv2, h⟩:=zn h
   refine wb [[1],[2],[],[17,0],[18,0],[19,0],[],[21,0],[22,0],[23,0]] ?_
   refine wN [15,16,20,24] ?_
   refine wo [] ⟨lk call97 (ok_wherryref01_read _ _ _ _ _ hv2)⟩ ?_
   refine wK [25] [] ?_
   refine wt [(14,.tup [vi v2.1,vi v2.2])] [[14],[14],[26],[27]] ⟨op_move_take _ _ _ _ rfl⟩ ?_
   refine wee hn [0,7,8,0] ?_
   refine ht_seq ?_
   refine yyy hn 2 [0,7,8,29,0] ?_
   refine ht_cond _ rfl (fun hb3 => ?_) (fun hb3 => ?_)
   ·have h:=cond_t hb3 h
    refine ht_seq ?_
    obtain ⟨v4, hv4, h⟩:=zn h
    refine yx hn 1 ?_
    refine yq call44 (ok_wherryref01_reader_none _ _ hv4) 0 [30] 0 ?_
    refine yee [0,0] ?_
    refine yyy hn 1 [0,6,0] ?_
    refine ht_ret ?_
    refine pt_pick [1,0,2] (by kernel_rfl) (es':=[(_,_),(_,_),(_,_)]) rfl ?_
    refine pt_r_then ?_
    obtain rfl:=zi h
    exact pt_retP (es:=[(6, .v (.int .i64 0))]) (posts:=[.box 67 [fb v4.b,.v (.int .i64 v4.at_),.v (.int .i64 v4.bad),.fl (.own 5) 1 (map (int .u8) v4.out),.v (.int .i64 v4.most)]]) hio rfl rfl (.tmp _ _ .nil) rfl rfl hargs0 rfl
   ·have h:=cond_f hb3 h
    refine ht_skip ?_
    refine pt_then ?_
    refine yyy hn 5 [0,7,0] ?_
    refine yyy hn 2 [0,6,0] ?_
    refine ht_ret ?_
    refine pt_pick [1,0,2] (by kernel_rfl) (es':=[(_,_),(_,_),(_,_)]) rfl ?_
    obtain rfl:=zi h
    exact pt_retP (es:=[(6, .v (.int .i64 v2.1))]) (posts:=[.box 67 [fb p_r.b,.v (.int .i64 v2.2),.v (.int .i64 p_r.bad),.fl (.own 5) 1 (map (int .u8) p_r.out),.v (.int .i64 p_r.most)]]) hio rfl rfl (.tmp _ _ .nil) rfl rfl hargs0 rfl
theorem ok_wherryref01_LenOf (sym:Int) (r:(Int×Int×Int)) (h:Sh.wherryref01_LenOf sym=some r):FnOK Tryd.prog 52 [.v (.int .i64 sym)] (.tup [.v (.int .i64 r.1), .v (.int .i64 r.2.1), .v (.int .i64 r.2.2)]):=by
  unfold Sh.wherryref01_LenOf at h
  refine yO 27 func52 fun g0 hn hio => ?_
  refine yyy hn 3 [0] ?_
  refine ht_seq ?_
  refine ht_seq ?_
  obtain ⟨v1, hv1, h⟩:=zn h
  refine yx hn 1 ?_
  refine ys 1 ⟨lk call50 (ok_wherryref01_in _ _ _ _ hv1)⟩ ?_
  refine yee [0,8] ?_
  refine ht_cond _ rfl (fun hb2 => ?_) (fun hb2 => ?_)
  ·have h:=cond_t hb2 h
   refine yyy hn 3 [2,3,4] ?_
   refine ht_ret ?_
   refine pt_r_then ?_
   obtain rfl:=zi h
   exact pt_ret hio rfl (.tmp _ _ (.tmp _ _ (.tmp _ _ .nil))) rfl rfl
  ·have h:=cond_f hb2 h
   refine ht_skip ?_
   refine pt_then (ht_seq ?_)
   refine yyy hn 2 [0,10] ?_
   refine ht_cond _ rfl (fun hb3 => ?_) (fun hb3 => ?_)
   ·have h:=cond_t hb3 h
    refine ht_seq ?_
    obtain ⟨v4, hv4, h⟩:=zn h
    refine yx hn 1 ?_
    refine ys 3 ⟨lb hv4⟩ ?_
    refine yee [2,3,4] ?_
    refine ht_ret ?_
    refine pt_r_then ?_
    obtain rfl:=zi h
    exact pt_ret hio rfl (.tmp _ _ (.tmp _ _ (.tmp _ _ .nil))) rfl rfl
   ·have h:=cond_f hb3 h
    refine ht_skip ?_
    refine pt_then (ht_seq ?_)
    refine yyy hn 2 [0,14] ?_
    refine ht_cond _ rfl (fun hb5 => ?_) (fun hb5 => ?_)
    ·have h:=cond_t hb5 h
     refine yyy hn 3 [2,3,4] ?_
     refine ht_ret ?_
     refine pt_r_then ?_
     obtain rfl:=zi h
     exact pt_ret hio rfl (.tmp _ _ (.tmp _ _ (.tmp _ _ .nil))) rfl rfl
    ·have h:=cond_f hb5 h
     refine ht_skip ?_
     refine pt_then (ht_seq ?_)
     obtain ⟨v6, hv6, h⟩:=zn h
     obtain ⟨v7, hv7, h⟩:=zn h
     refine yx hn 1 ?_
     refine ys 0 ⟨lb hv6⟩ ?_
     refine ys 1 ⟨lB (quo_ok hv7)⟩ ?_
     refine yee [0,5] ?_
     refine ht_seq ?_
     obtain ⟨v8, hv8, h⟩:=zn h
     obtain ⟨v9, hv9, h⟩:=zn h
     obtain ⟨v10, hv10, h⟩:=zn h
     obtain ⟨v11, hv11, h⟩:=zn h
     obtain ⟨v12, hv12, h⟩:=zn h
     obtain ⟨v13, hv13, h⟩:=zn h
     refine yx hn 1 ?_
     refine ys 0 ⟨lb hv8⟩ ?_
     refine ys 0 ⟨lB (rem_ok hv9)⟩ ?_
     refine ys 1 ⟨lb hv10⟩ ?_
     refine ys 0 ⟨lv hv11⟩ ?_
     refine ys 0 ⟨lB (shl_ok hv12)⟩ ?_
     refine ys 4 ⟨lb hv13⟩ ?_
     refine yee [2,3,4] ?_
     refine ht_ret ?_
     obtain rfl:=zi h
     exact pt_ret hio rfl (.tmp _ _ (.tmp _ _ (.tmp _ _ .nil))) rfl rfl
theorem ok_wherryref01_DistOf (sym:Int) (r:(Int×Int×Int)) (h:Sh.wherryref01_DistOf sym=some r):FnOK Tryd.prog 53 [.v (.int .i64 sym)] (.tup [.v (.int .i64 r.1), .v (.int .i64 r.2.1), .v (.int .i64 r.2.2)]):=by
  unfold Sh.wherryref01_DistOf at h
  refine yO 24 func53 fun g0 hn hio => ?_
  refine yyy hn 3 [0] ?_
  refine ht_seq ?_
  refine ht_seq ?_
  obtain ⟨v1, hv1, h⟩:=zn h
  refine yx hn 1 ?_
  refine ys 1 ⟨lk call50 (ok_wherryref01_in _ _ _ _ hv1)⟩ ?_
  refine yee [0,8] ?_
  refine ht_cond _ rfl (fun hb2 => ?_) (fun hb2 => ?_)
  ·have h:=cond_t hb2 h
   refine yyy hn 3 [2,3,4] ?_
   refine ht_ret ?_
   refine pt_r_then ?_
   obtain rfl:=zi h
   exact pt_ret hio rfl (.tmp _ _ (.tmp _ _ (.tmp _ _ .nil))) rfl rfl
  ·have h:=cond_f hb2 h
   refine ht_skip ?_
   refine pt_then (ht_seq ?_)
   refine yyy hn 2 [0,10] ?_
   refine ht_cond _ rfl (fun hb3 => ?_) (fun hb3 => ?_)
   ·have h:=cond_t hb3 h
    refine ht_seq ?_
    obtain ⟨v4, hv4, h⟩:=zn h
    refine yx hn 1 ?_
    refine ys 3 ⟨lb hv4⟩ ?_
    refine yee [2,3,4] ?_
    refine ht_ret ?_
    refine pt_r_then ?_
    obtain rfl:=zi h
    exact pt_ret hio rfl (.tmp _ _ (.tmp _ _ (.tmp _ _ .nil))) rfl rfl
   ·have h:=cond_f hb3 h
    refine ht_skip ?_
    refine pt_then (ht_seq ?_)
    obtain ⟨v5, hv5, h⟩:=zn h
    obtain ⟨v6, hv6, h⟩:=zn h
    refine yx hn 1 ?_
    refine ys 0 ⟨lb hv5⟩ ?_
    refine ys 1 ⟨lB (quo_ok hv6)⟩ ?_
    refine yee [0,5] ?_
    refine ht_seq ?_
    obtain ⟨v7, hv7, h⟩:=zn h
    obtain ⟨v8, hv8, h⟩:=zn h
    obtain ⟨v9, hv9, h⟩:=zn h
    obtain ⟨v10, hv10, h⟩:=zn h
    obtain ⟨v11, hv11, h⟩:=zn h
    refine yx hn 1 ?_
    refine ys 0 ⟨lB (rem_ok hv7)⟩ ?_
    refine ys 1 ⟨lb hv8⟩ ?_
    refine ys 0 ⟨lv hv9⟩ ?_
    refine ys 0 ⟨lB (shl_ok hv10)⟩ ?_
    refine ys 4 ⟨lb hv11⟩ ?_
    refine yee [2,3,4] ?_
    refine ht_ret ?_
    obtain rfl:=zi h
    exact pt_ret hio rfl (.tmp _ _ (.tmp _ _ (.tmp _ _ .nil))) rfl rfl
theorem ok_wherryref01_reader_text (p_r:T_wherryref01_reader) (l:(List Int)) (d:(List Int)) (r:T_wherryref01_reader) (h:Sh.wherryref01_reader_text p_r l d=some r):FnP Tryd.prog 42 [.box 67 [.fl .shr 1 (map (int .u8) p_r.b), .v (.int .i64 p_r.at_), .v (.int .i64 p_r.bad), .fl (.own 5) 1 (map (int .u8) p_r.out), .v (.int .i64 p_r.most)], .fl .shr 1 (map (int .i64) l), .fl .shr 1 (map (int .i64) d)] [.box 67 [.fl .shr 1 (map (int .u8) r.b), .v (.int .i64 r.at_), .v (.int .i64 r.bad), .fl (.own 5) 1 (map (int .u8) r.out), .v (.int .i64 r.most)]] (.tup []):=by
  unfold Sh.wherryref01_reader_text at h
  refine yP 142 func42 fun args0 hargs0 g0 hn hio => ?_
  refine ht_seq ?_
  obtain ⟨v1, hv1, h⟩:=zn h
  obtain ⟨v2, hv2, h⟩:=zn h
  refine yx hn 1 ?_
  refine ys 1 ⟨lk call71 (ok_wherryref01_codes _ _ hv1)⟩ ?_
  refine ys 0 ⟨lk call71 (ok_wherryref01_codes _ _ hv2)⟩ ?_
  refine ya 0 ?_
  refine ya 0 ?_
  refine yee [0,1,2,6,7,0] ?_
  refine ht_frzE 3 hio (es':=[(0, .box 67 [fb p_r.b,.v (.int .i64 p_r.at_),.v (.int .i64 p_r.bad),.fl (.own 5) 1 (map (int .u8) p_r.out),.v (.int .i64 p_r.most)]), (1, fi l), (2, fi d), (6, .fl .ro 1 (map (int .i64) v1)), (7, .fl (.own 3) 1 (map (int .i64) v2)), (0, .v (List.getD args0 0 undef))]) rfl ?_
  refine ht_frzE 4 hio (es':=[(0, .box 67 [fb p_r.b,.v (.int .i64 p_r.at_),.v (.int .i64 p_r.bad),.fl (.own 5) 1 (map (int .u8) p_r.out),.v (.int .i64 p_r.most)]), (1, fi l), (2, fi d), (6, .fl .ro 1 (map (int .i64) v1)), (7, .fl .ro 1 (map (int .i64) v2)), (0, .v (List.getD args0 0 undef))]) rfl ?_
  refine ht_loopS h (fun ((s185,s186,s187,s188,s189,s190,s191):(List Int)×Int×Int×(List Int)×Int×(List Int)×(List Int))=>[(0,.box 67 [fb s185,vi s186,vi s187,.fl (.own 5) 1 (map (int .u8) s188),vi s189]),(1,fi l),(2,fi d),(6,.fl .ro 1 (map (int .i64) s190)),(7,.fl .ro 1 (map (int .i64) s191)),(0,.v (List.getD args0 0 undef))]) (fun ((s269,s270,s271,s272,s273):(List Int)×Int×Int×(List Int)×Int)=>[(0,.box 67 [fb s269,vi s270,vi s271,.fl (.own 5) 1 (map (int .u8) s272),vi s273]),(0,.v (List.getD args0 0 undef))]) ?_ ?_
  ·rintro ⟨s269, s270, s271, s272, s273⟩ h
   obtain rfl:=zi h
   exact pt_endP (es:=[]) (posts:=[.box 67 [fb s269,.v (.int .i64 s270),.v (.int .i64 s271),.fl (.own 5) 1 (map (int .u8) s272),.v (.int .i64 s273)]]) hio rfl rfl .nil rfl rfl hargs0 rfl
  ·rintro u274 hl275 hr276 ⟨s185, s186, s187, s188, s189, s190, s191⟩ rr279 h ho277
   refine ht_seq ?_
   refine yyy hn 5 [0,1,2,6,7,26,0] ?_
   refine ht_cond _ rfl (fun hb280 => ?_) (fun hb280 => ?_)
   ·have h:=cond_t hb280 h
    refine ht_skip ?_
    refine pt_then ?_
    refine ht_joinS h (fun ((s315,s316,s317,s318,s319):(List Int)×Int×Int×(List Int)×Int)=>[(0,.box 67 [fb s315,vi s316,vi s317,.fl (.own 5) 1 (map (int .u8) s318),vi s319]),(1,fi l),(2,fi d),(6,.fl .ro 1 (map (int .i64) s190)),(7,.fl .ro 1 (map (int .i64) s191)),(0,.v (List.getD args0 0 undef))]) ?_ ?_
    ·rintro ⟨s315, s316, s317, s318, s319⟩ h
     exact pt_next _ (zi h).symm rfl
    ·intro u320 h hl321 hr322
     refine ht_block ?_
     refine ht_seq ?_
     obtain ⟨v4, hv4, h⟩:=zn h
     refine yx hn 3 ?_
     refine yq call76 (ok_wherryref01_reader_sym _ _ _ _ hv4) 0 [27,28,29] 1 ?_
     refine yee [0,1,2,6,7,8,0] ?_
     refine ht_seq ?_
     refine ht_seq ?_
     refine ht_joinS h (fun (s323:Bool)=>[(0,.box 67 [fb v4.2.b,vi v4.2.at_,vi v4.2.bad,.fl (.own 5) 1 (map (int .u8) v4.2.out),vi v4.2.most]),(1,fi l),(2,fi d),(6,.fl .ro 1 (map (int .i64) s190)),(7,.fl .ro 1 (map (int .i64) s191)),(8,vi v4.1),(39,vb s323),(0,.v (List.getD args0 0 undef))]) ?_ ?_
     ·rintro s323 h
      refine pt_then ?_
      refine ht_cond _ rfl (fun hb327 => ?_) (fun hb327 => ?_)
      ·have h:=cond_t hb327 h
       refine ht_ret ?_
       refine pt_pick [0,7] (by kernel_rfl) (es':=[(_,_),(_,_)]) rfl ?_
       refine pt_r_then ?_
       refine pt_r_in ?_
       refine pt_r_then ?_
       refine pt_r_in ?_
       have h:=hr322 _ (zi h).symm
       have h:=hr276 _ (ho277 _ (zi h).symm).symm
       obtain rfl:=zi h
       exact pt_retP (es:=[]) (posts:=[.box 67 [fb v4.2.b,.v (.int .i64 v4.2.at_),.v (.int .i64 v4.2.bad),.fl (.own 5) 1 (map (int .u8) v4.2.out),.v (.int .i64 v4.2.most)]]) hio rfl rfl .nil rfl rfl hargs0 rfl
      ·have h:=cond_f hb327 h
       refine ht_skip ?_
       refine pt_then (ht_seq ?_)
       refine yyy hn 2 [0,1,2,6,7,8,41,0] ?_
       refine ht_cond _ rfl (fun hb328 => ?_) (fun hb328 => ?_)
       ·have h:=cond_t hb328 h
        refine ht_seq ?_
        refine ht_seq ?_
        obtain ⟨v11, hv11, h⟩:=zn h
        refine yx hn 1 ?_
        refine yq call75 (ok_wherryref01_reader_room _ _ _ hv11) 0 [42] 0 ?_
        refine yee [0,1,2,6,7,8,43,0] ?_
        refine ht_cond _ rfl (fun hb329 => ?_) (fun hb329 => ?_)
        ·have h:=cond_t hb329 h
         obtain ⟨v13, hv13, h⟩:=zn h
         obtain ⟨v14, hv14, h⟩:=zn h
         refine yx hn 6 ?_
         refine ys 0 ⟨lv hv13⟩ ?_
         refine yS (.fl (.own 5) 1 (map (int .u8) [v13])) 0 ⟨op_buildSlice _ _ 1 (.int .u8 0) (map (int .u8) [v13]) [(0,.int .u8 v13)] underlying22 sz5 zr5 (fun _ V w o a hv hes=>by have e0:=rd_v hv hes (x := .tmp 50) rfl; simp only [List.map_toArray,List.map_cons,List.map_nil,e0]; try rfl) (litfill (by simp [Instr.fill,Value.cells]; rfl) (by simp [List.range,List.range.loop] <;> rfl)) (by simp [Value.oneCell']) rfl (by decide) (by decide) (by decide)⟩ ?_
         refine yk [0] [48,51] ?_
         refine ytt (0,.box 67 [fb v11.2.b,vi v11.2.at_,vi v11.2.bad,.any,vi v11.2.most]) (52,.fl (.own 5) 1 (map (int .u8) v14)) 2 ⟨op_app_cell _ _ _ _ _ _ el22 rfl rfl (zl rfl) rfl (map_len _) (map_len _) hv14 ((List.map_append).symm.trans (congrArg (map _) (app_eq hv14))) (Nat.ne_of_beq_eq_false rfl) rfl rfl⟩ ?_
         refine yw [48] 0 ?_
         refine yk [52,0] [54] ?_
         refine yt (0,.box 67 [fb v11.2.b,vi v11.2.at_,vi v11.2.bad,.fl (.own 5) 1 (map (int .u8) v14),vi v11.2.most]) 0 ⟨op_store_take _ _ _ _ _ _ _ _ sz22 rfl rfl rfl (zl rfl) rfl rfl⟩ ?_
         refine yee [0,1,2,6,7,0] ?_
         refine ht_exit ?_
         refine pt_x_then ?_
         refine pt_x_in ?_
         exact hl321 _ (zi h).symm
        ·have h:=cond_f hb329 h
         refine ht_skip ?_
         refine pt_then ?_
         refine ht_exit ?_
         refine pt_x_then ?_
         refine pt_x_in ?_
         refine pt_pick [0,1,2,3,4,7] (by kernel_rfl) (es':=[(_,_),(_,_),(_,_),(_,_),(_,_),(_,_)]) rfl ?_
         exact hl321 _ (zi h).symm
       ·have h:=cond_f hb328 h
        refine ht_skip ?_
        refine pt_then (ht_seq ?_)
        refine yyy hn 2 [0,1,2,6,7,8,56,0] ?_
        refine ht_cond _ rfl (fun hb330 => ?_) (fun hb330 => ?_)
        ·have h:=cond_t hb330 h
         refine ht_seq ?_
         obtain ⟨v16, hv16, h⟩:=zn h
         refine yx hn 1 ?_
         refine yq call44 (ok_wherryref01_reader_none _ _ hv16) 0 [57] 0 ?_
         refine yee [0,0] ?_
         refine ht_ret ?_
         refine pt_r_then ?_
         refine pt_r_in ?_
         refine pt_r_then ?_
         refine pt_r_in ?_
         have h:=hr322 _ (zi h).symm
         have h:=hr276 _ (ho277 _ (zi h).symm).symm
         obtain rfl:=zi h
         exact pt_retP (es:=[]) (posts:=[.box 67 [fb v16.b,.v (.int .i64 v16.at_),.v (.int .i64 v16.bad),.fl (.own 5) 1 (map (int .u8) v16.out),.v (.int .i64 v16.most)]]) hio rfl rfl .nil rfl rfl hargs0 rfl
        ·have h:=cond_f hb330 h
         refine ht_skip ?_
         refine pt_then (ht_seq ?_)
         obtain ⟨v17, hv17, h⟩:=zn h
         refine yx hn 1 ?_
         refine ys 0 ⟨lk call52 (ok_wherryref01_LenOf _ _ hv17)⟩ ?_
         refine ym 6 ?_
         refine yee [0,1,2,6,7,9,10,0] ?_
         refine ht_seq ?_
         obtain ⟨v18, hv18, h⟩:=zn h
         obtain ⟨v19, hv19, h⟩:=zn h
         refine yx hn 3 ?_
         refine yq call40 (ok_wherryref01_reader_get _ _ _ hv18) 0 [66,67] 0 ?_
         refine ys 1 ⟨lb hv19⟩ ?_
         refine yee [0,1,2,6,7,12,0] ?_
         refine ht_seq ?_
         obtain ⟨v20, hv20, h⟩:=zn h
         refine yx hn 3 ?_
         refine yq call76 (ok_wherryref01_reader_sym _ _ _ _ hv20) 0 [70,71,72] 1 ?_
         refine yee [0,1,2,6,7,12,13,0] ?_
         refine ht_seq ?_
         refine ht_seq ?_
         refine ht_joinS h (fun (s331:Bool)=>[(0,.box 67 [fb v20.2.b,vi v20.2.at_,vi v20.2.bad,.fl (.own 5) 1 (map (int .u8) v20.2.out),vi v20.2.most]),(1,fi l),(2,fi d),(6,.fl .ro 1 (map (int .i64) s190)),(7,.fl .ro 1 (map (int .i64) s191)),(12,vi v19),(13,vi v20.1),(82,vb s331),(0,.v (List.getD args0 0 undef))]) ?_ ?_
         ·rintro s331 h
          refine pt_then ?_
          refine ht_cond _ rfl (fun hb335 => ?_) (fun hb335 => ?_)
          ·have h:=cond_t hb335 h
           refine ht_seq ?_
           obtain ⟨v26, hv26, h⟩:=zn h
           refine yx hn 1 ?_
           refine yq call44 (ok_wherryref01_reader_none _ _ hv26) 0 [83] 0 ?_
           refine yee [0,0] ?_
           refine ht_ret ?_
           refine pt_r_then ?_
           refine pt_r_in ?_
           refine pt_r_then ?_
           refine pt_r_in ?_
           have h:=hr322 _ (zi h).symm
           have h:=hr276 _ (ho277 _ (zi h).symm).symm
           obtain rfl:=zi h
           exact pt_retP (es:=[]) (posts:=[.box 67 [fb v26.b,.v (.int .i64 v26.at_),.v (.int .i64 v26.bad),.fl (.own 5) 1 (map (int .u8) v26.out),.v (.int .i64 v26.most)]]) hio rfl rfl .nil rfl rfl hargs0 rfl
          ·have h:=cond_f hb335 h
           refine ht_skip ?_
           refine pt_then (ht_seq ?_)
           obtain ⟨v27, hv27, h⟩:=zn h
           refine yx hn 1 ?_
           refine ys 0 ⟨lk call53 (ok_wherryref01_DistOf _ _ hv27)⟩ ?_
           refine ym 6 ?_
           refine yee [0,1,2,6,7,12,14,10,0] ?_
           refine ht_seq ?_
           obtain ⟨v28, hv28, h⟩:=zn h
           obtain ⟨v29, hv29, h⟩:=zn h
           refine yx hn 3 ?_
           refine yq call40 (ok_wherryref01_reader_get _ _ _ hv28) 0 [92,93] 0 ?_
           refine ys 1 ⟨lb hv29⟩ ?_
           refine yee [0,1,2,6,7,12,16,0] ?_
           refine ht_seq ?_
           refine ht_seq ?_
           refine ht_joinS h (fun (s336:Bool)=>[(0,.box 67 [fb v28.2.b,vi v28.2.at_,vi v28.2.bad,.fl (.own 5) 1 (map (int .u8) v28.2.out),vi v28.2.most]),(1,fi l),(2,fi d),(6,.fl .ro 1 (map (int .i64) s190)),(7,.fl .ro 1 (map (int .i64) s191)),(12,vi v19),(16,vi v29),(109,vb s336),(0,.v (List.getD args0 0 undef))]) ?_ ?_
           ·rintro s336 h
            refine pt_then ?_
            refine ht_cond _ rfl (fun hb340 => ?_) (fun hb340 => ?_)
            ·have h:=cond_t hb340 h
             refine ht_seq ?_
             obtain ⟨v35, hv35, h⟩:=zn h
             refine yx hn 1 ?_
             refine yq call44 (ok_wherryref01_reader_none _ _ hv35) 0 [110] 0 ?_
             refine yee [0,0] ?_
             refine ht_ret ?_
             refine pt_r_then ?_
             refine pt_r_in ?_
             refine pt_r_then ?_
             refine pt_r_in ?_
             have h:=hr322 _ (zi h).symm
             have h:=hr276 _ (ho277 _ (zi h).symm).symm
             obtain rfl:=zi h
             exact pt_retP (es:=[]) (posts:=[.box 67 [fb v35.b,.v (.int .i64 v35.at_),.v (.int .i64 v35.bad),.fl (.own 5) 1 (map (int .u8) v35.out),.v (.int .i64 v35.most)]]) hio rfl rfl .nil rfl rfl hargs0 rfl
            ·have h:=cond_f hb340 h
             refine ht_skip ?_
             refine pt_then (ht_seq ?_)
             obtain ⟨v36, hv36, h⟩:=zn h
             refine yx hn 2 ?_
             refine yq call75 (ok_wherryref01_reader_room _ _ _ hv36) 0 [112,113] 0 ?_
             refine yee [0,1,2,6,7,12,16,114,0] ?_
             refine ht_cond _ rfl (fun hb341 => ?_) (fun hb341 => ?_)
             ·have h:=cond_t hb341 h
              refine yyy hn 1 [0,1,2,6,7,12,16,17,0] ?_
              refine ht_loopS h (fun ((s346,s347):(List Int)×Int)=>[(0,.box 67 [fb v36.2.b,vi v36.2.at_,vi v36.2.bad,.fl (.own 5) 1 (map (int .u8) s346),vi v36.2.most]),(1,fi l),(2,fi d),(6,.fl .ro 1 (map (int .i64) s190)),(7,.fl .ro 1 (map (int .i64) s191)),(12,vi v19),(16,vi v29),(17,vi s347),(0,.v (List.getD args0 0 undef))]) (fun (s349:(List Int))=>[(0,.box 67 [fb v36.2.b,vi v36.2.at_,vi v36.2.bad,.fl (.own 5) 1 (map (int .u8) s349),vi v36.2.most]),(1,fi l),(2,fi d),(6,.fl .ro 1 (map (int .i64) s190)),(7,.fl .ro 1 (map (int .i64) s191)),(0,.v (List.getD args0 0 undef))]) ?_ ?_
              ·rintro s349 h
               refine pt_inb ?_
               exact hl321 _ (zi h).symm
              ·rintro u350 hl351 hr352 ⟨s346, s347⟩ rr355 h ho353
               refine ht_seq ?_
               refine yyy hn 3 [0,1,2,6,7,12,16,17,117,0] ?_
               refine ht_cond _ rfl (fun hb356 => ?_) (fun hb356 => ?_)
               ·have h:=cond_t hb356 h
                refine ht_skip ?_
                refine pt_then (ht_seq ?_)
                refine ht_block ?_
                obtain ⟨v39, hv39, h⟩:=zn h
                obtain ⟨v40, hv40, h⟩:=zn h
                obtain ⟨v41, hv41, h⟩:=zn h
                obtain ⟨v42, hv42, h⟩:=zn h
                refine wb [[],[],[121,0],[122,0],[123,0],[],[125,0],[126,0],[127,0],[],[129,0],[130,0],[131,0],[132,0],[16]] ?_
                refine wN [133,134] ?_
                refine wo [] ⟨lb hv39⟩ ?_
                refine wN [128,0,135] ?_
                refine wo [] ⟨li hv40⟩ ?_
                refine wN [136,0] ?_
                refine wo [] ⟨ll hv41⟩ ?_
                refine wN [137] ?_
                refine wS (.fl (.own 5) 1 (map (int .u8) [v41])) [] ⟨op_buildSlice _ _ 1 (.int .u8 0) (map (int .u8) [v41]) [(0,.int .u8 v41)] underlying22 sz5 zr5 (fun _ V w o a hv hes=>by have e0:=rd_v hv hes (x := .tmp 137) rfl; simp only [List.map_toArray,List.map_cons,List.map_nil,e0]; try rfl) (litfill (by simp [Instr.fill,Value.cells]; rfl) (by simp [List.range,List.range.loop] <;> rfl)) (by simp [Value.oneCell']) rfl (by decide) (by decide) (by decide)⟩ ?_
                refine wK [0] [124,138] ?_
                refine wt [(0,.box 67 [fb v36.2.b,vi v36.2.at_,vi v36.2.bad,.any,vi v36.2.most]),(139,.fl (.own 5) 1 (map (int .u8) v42))] [[120,0],[140,0]] ⟨op_app_cell _ _ _ _ _ _ el22 rfl rfl (zl rfl) rfl (map_len _) (map_len _) hv42 ((List.map_append).symm.trans (congrArg (map _) (app_eq hv42))) (Nat.ne_of_beq_eq_false rfl) rfl rfl⟩ ?_
                refine wK [124,128,132,136,139,0] [141] ?_
                refine wt [(0,.box 67 [fb v36.2.b,vi v36.2.at_,vi v36.2.bad,.fl (.own 5) 1 (map (int .u8) v42),vi v36.2.most])] [] ⟨LOp.drop [_] (LOp.drop [_] (LOp.drop [_] (LOp.drop [_] (op_store_take _ _ _ _ _ _ _ _ sz22 rfl rfl rfl (zl rfl) rfl rfl))))⟩ ?_
                refine we hn [0,1,2,6,7,12,16,17,0] ?_
                refine pt_inb ?_
                refine pt_then ?_
                obtain ⟨v43, hv43, h⟩:=zn h
                refine yx hn 1 ?_
                refine ys 0 ⟨lb hv43⟩ ?_
                refine yw [17] 1 ?_
                refine ye [0,1,2,6,7,12,16,17,0] ?_
                exact pt_next _ (zi h).symm rfl
               ·have h:=cond_f hb356 h
                refine ht_exit ?_
                refine pt_x_then ?_
                refine pt_x_then ?_
                refine pt_x_in ?_
                refine pt_pick [0,1,2,3,4,9] (by kernel_rfl) (es':=[(_,_),(_,_),(_,_),(_,_),(_,_),(_,_)]) rfl ?_
                exact hl351 _ (ho353 _ (zi h).symm).symm
             ·have h:=cond_f hb341 h
              refine ht_skip ?_
              refine pt_inb ?_
              refine pt_pick [0,1,2,3,4,8] (by kernel_rfl) (es':=[(_,_),(_,_),(_,_),(_,_),(_,_),(_,_)]) rfl ?_
              exact hl321 _ (zi h).symm
           ·intro u337 h hl338 hr339
            refine cond_some h (fun hg16_5 h => ?_) (fun hg16_5 h => ?_)
            ·refine yx hn 6 ?_
             refine yd hg16_5 8 ?_
             refine ye [0,1,2,6,7,12,16,109,0] ?_
             exact hl338 _ (zi h).symm
            ·refine yx hn 6 ?_
             refine yd hg16_5 8 ?_
             refine ye [0,1,2,6,7,12,16,109,0] ?_
             exact hl338 _ (zi h).symm
         ·intro u332 h hl333 hr334
          refine cond_some h (fun hg12_5 h => ?_) (fun hg12_5 h => ?_)
          ·refine yx hn 6 ?_
           refine yd hg12_5 3 ?_
           refine ye [0,1,2,6,7,12,13,82,0] ?_
           exact hl333 _ (zi h).symm
          ·refine yx hn 6 ?_
           refine yd hg12_5 3 ?_
           refine ye [0,1,2,6,7,12,13,82,0] ?_
           exact hl333 _ (zi h).symm
     ·intro u324 h hl325 hr326
      refine cond_some h (fun hg3_5 h => ?_) (fun hg3_5 h => ?_)
      ·refine yx hn 6 ?_
       refine yd hg3_5 3 ?_
       refine ye [0,1,2,6,7,8,39,0] ?_
       exact hl325 _ (zi h).symm
      ·refine yx hn 6 ?_
       refine yd hg3_5 3 ?_
       refine ye [0,1,2,6,7,8,39,0] ?_
       exact hl325 _ (zi h).symm
   ·have h:=cond_f hb280 h
    refine ht_exit ?_
    refine pt_x_then ?_
    refine pt_x_then ?_
    refine pt_x_in ?_
    refine pt_pick [0,6] (by kernel_rfl) (es':=[(_,_),(_,_)]) rfl ?_
    exact hl275 _ (ho277 _ (zi h).symm).symm
theorem ok_wherryref01_order (r:(List Int)) (h:Sh.wherryref01_order  = some r):FnOK Tryd.prog 70 [] (.fl (.own 3) 1 (map (int .i64) r)):=by
  unfold Sh.wherryref01_order at h
  refine yO 2 func70 fun g0 hn hio => ?_
  refine yyy hn 1 [] ?_
  refine yxx hn 0 ?_
  refine yS (.fl (.own 3) 1 (map (int .i64) [16,17,18,0,8,7,9,6,10,5,11,4,12,3,13,2,14,1,15])) 0 ⟨op_buildSlice _ _ 1 (.int .i64 0) (map (int .i64) [16,17,18,0,8,7,9,6,10,5,11,4,12,3,13,2,14,1,15]) [(0,.int .i64 16),(1,.int .i64 17),(2,.int .i64 18),(3,.int .i64 0),(4,.int .i64 8),(5,.int .i64 7),(6,.int .i64 9),(7,.int .i64 6),(8,.int .i64 10),(9,.int .i64 5),(10,.int .i64 11),(11,.int .i64 4),(12,.int .i64 12),(13,.int .i64 3),(14,.int .i64 13),(15,.int .i64 2),(16,.int .i64 14),(17,.int .i64 1),(18,.int .i64 15)] underlying37 sz3 zr3 (fun _ V w o a hv hes=>by simp only [List.map_toArray,List.map_cons,List.map_nil]; try rfl) (litfill (by simp [Instr.fill,Value.cells]; rfl) (by simp [List.range,List.range.loop] <;> rfl)) (by simp [Value.oneCell']) rfl (by decide) (by decide) (by decide)⟩ ?_
  refine ya 0 ?_
  refine yee [0] ?_
  refine ht_ret ?_
  obtain rfl:=zi h
  exact pt_ret hio rfl (.tmp _ _ .nil) rfl rfl
end Go.Proofs.YtkgfjkfccpjcgaaDoor
