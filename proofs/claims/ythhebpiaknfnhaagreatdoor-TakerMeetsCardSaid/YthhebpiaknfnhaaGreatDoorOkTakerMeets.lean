/-
  The model's runs are what is told in Lean.
-/
import Derived.Test.YthhebpiaknfnhaaGreatDoorProg
import Derived.KernelRfl
import Derived.Test.YthhebpiaknfnhaaGreatDoorShelf
import Derived.Test.YthhebpiaknfnhaaGreatDoorIdx
import Derived.Test.YthhebpiaknfnhaaGreatDoorIns
import Derived.Test.YthhebpiaknfnhaaGreatDoorB1
import Derived.Test.YthhebpiaknfnhaaGreatDoorC1
import Derived.Test.YthhebpiaknfnhaaGreatDoorOkc5
set_option linter.unusedVariables false
set_option linter.unusedSimpArgs false
set_option maxHeartbeats 1000000
namespace Go.Proofs.YthhebpiaknfnhaaGreatDoor
open Go.Abs Go.Abs.Sh Tryz
open List (map flatten)
open Value (int)

theorem ok_wherrylaw22_TakerMeets (mx:Int) (number:Int) (data:(List Int)) (lost:(List Bool)) (r:Bool) (h:Sh.wherrylaw22_TakerMeets number data lost=some r):FnG Tryz.prog (GL mx) 3 [.v (.int .i64 number), .fl .shr 1 (map (int .u8) data), .fl .shr 1 (map Value.bool lost)] (.v (.bool r)):=by
  unfold Sh.wherrylaw22_TakerMeets at h
  refine yG 161 func3 fun g0 hn hio => ?_
  refine yyy hn 1 [0,1,2,161] ?_
  refine ht_seq ?_
  refine ht_seq ?_
  refine ht_joinS h (fun (s1:Bool)=>[(0,vi number),(1,fb data),(2,.fl .shr 1 (map Value.bool lost)),(161,.glob (GL mx)),(39,vb s1)]) ?_ ?_
  ·rintro s1 h
   refine pt_then ?_
   refine ht_cond _ rfl (fun hb5 => ?_) (fun hb5 => ?_)
   ·have h:=cond_t hb5 h
    refine yyy hn 1 [161,6] ?_
    refine ht_ret ?_
    refine pt_pick [1] (by kernel_rfl) (es':=[(_,_)]) rfl ?_
    refine pt_r_then ?_
    obtain rfl:=zi h
    exact pt_ret hio rfl (.tmp _ _ .nil) rfl rfl
   ·have h:=cond_f hb5 h
    refine ht_skip ?_
    refine pt_then (ht_seq ?_)
    obtain ⟨v6, hv6, h⟩:=zn h
    obtain ⟨v7, hv7, h⟩:=zn h
    obtain ⟨v8, hv8, h⟩:=zn h
    obtain ⟨v9, hv9, h⟩:=zn h
    refine yx hn 1 ?_
    refine ys 0 ⟨lv hv6⟩ ?_
    refine ys 0 ⟨lB (rem_ok hv7)⟩ ?_
    refine ys 0 ⟨lv hv8⟩ ?_
    refine ys 0 ⟨lb hv9⟩ ?_
    refine yw [0] 1 ?_
    refine yee [1,2,161,0] ?_
    refine ht_seq ?_
    obtain ⟨v10, hv10, h⟩:=zn h
    refine yx hn 2 ?_
    refine ys 0 ⟨lk call4 (ok_sender_New _ _ _ hv10)⟩ ?_
    refine ym 0 ?_
    refine yx_ 1 ?_
    refine yS (.box 26 [vi 0,vz,vb false,vi 0,vi 0,vi 0,vb false]) 0 ⟨oA (op_alloc _ _ zr26)⟩ ?_
    refine yk [49,7] [] ?_
    refine yt (7,.box 26 [vi v10.1.Number,.fl (.own 5) 1 (map (int .u8) v10.1.Data),vb v10.1.Ready,vi v10.1.Base,vi v10.1.Next,vi v10.1.Wait,vb v10.1.Over]) 1 ⟨op_store_take _ _ _ _ _ _ _ _ sz26 rfl rfl rfl (zl rfl) rfl rfl⟩ ?_
    refine yee [1,2,161,7,8] ?_
    refine ht_seq ?_
    obtain ⟨v11, hv11, h⟩:=zn h
    refine yx hn 0 ?_
    refine ys 0 ⟨lk call5 (ok_spool_New _ hv11)⟩ ?_
    refine yS (.agg [vb false,vi 0,vi 0]) 0 ⟨op_build _ _ _ _ [1,1,1] _ _ underlying36 zr36 (fs36 _ underlying36) Src.nil rfl rfl rfl⟩ ?_
    refine yS (.box 33 [vz,vi 0,vz,vz,vi 0,vz]) 0 ⟨oA (op_alloc _ _ zr33)⟩ ?_
    refine yS (.box 36 [vb false,vi 0,vi 0]) 0 ⟨oA (op_alloc _ _ zr36)⟩ ?_
    refine yk [51,9] [] ?_
    refine yt (9,.box 33 [.fr (.own 88) false 11 (flatten (map T_Item.ienc v11.Items)),vi v11.Packs,.fl (.own 3) 1 (map (int .i64) v11.Sent),.fl (.own 5) 1 (map (int .u8) v11.Part),vi v11.Of,.fl (.own 3) 1 (map (int .i64) v11.Done)]) 0 ⟨op_store_take _ _ _ _ _ _ _ _ sz33 rfl rfl rfl (zl rfl) rfl rfl⟩ ?_
    refine yk [52,10] [] ?_
    refine yt (10,.box 36 [vb false,vi 0,vi 0]) 0 ⟨op_store_self _ _ _ 52 10 3 sz36 rfl rfl rfl rfl rfl (.eq _ (.eq _ (.eq _ (.nil _)))) rfl⟩ ?_
    refine yee [1,2,161,7,8,9,10] ?_
    refine ht_seq ?_
    refine yyy hn 2 [1,2,161,7,9,10,54] ?_
    refine ht_cond _ rfl (fun hb12 => ?_) (fun hb12 => ?_)
    ·have h:=cond_t hb12 h
     refine yyy hn 1 [161,6] ?_
     refine ht_ret ?_
     refine pt_pick [1] (by kernel_rfl) (es':=[(_,_)]) rfl ?_
     refine pt_r_then ?_
     obtain rfl:=zi h
     exact pt_ret hio rfl (.tmp _ _ .nil) rfl rfl
    ·have h:=cond_f hb12 h
     refine ht_skip ?_
     refine pt_then ?_
     refine yyy hn 1 [1,2,161,7,9,10,11] ?_
     refine ht_seq ?_
     refine yyy hn 1 [1,2,161,7,9,10,11,12] ?_
     refine ht_frz 4 hio (es':=[(1, fb data), (2, .fl .shr 1 (map Value.bool lost)), (161, .glob (GL mx)), (7, .box 26 [.v (.int .i64 v10.1.Number),.fl (.own 5) 1 (map (int .u8) v10.1.Data),.v (.bool v10.1.Ready),.v (.int .i64 v10.1.Base),.v (.int .i64 v10.1.Next),.v (.int .i64 v10.1.Wait),.v (.bool v10.1.Over)]), (9, .box 33 [.fr .ro false 11 (flatten (map T_Item.ienc v11.Items)),.v (.int .i64 v11.Packs),.fl .ro 1 (map (int .i64) v11.Sent),.fl .ro 1 (map (int .u8) v11.Part),.v (.int .i64 v11.Of),.fl .ro 1 (map (int .i64) v11.Done)]), (10, .box 36 [.v (.bool false), .v (.int .i64 0), .v (.int .i64 0)]), (11, .v (.int .i64 0)), (12, .v (.int .i64 0))]) rfl ?_
     refine ht_loopS h (fun ((s3114,s3115,s3116,s3117,s3118,s3119,s3120,s3121,s3122,s3123,s3124,s3125,s3126,s3127,s3128,s3129,s3130,s3131):Int×(List Int)×Bool×Int×Int×Int×Bool×(List T_Item)×Int×(List Int)×(List Int)×Int×(List Int)×Bool×Int×Int×Int×Int)=>[(1,fb data),(2,.fl .shr 1 (map Value.bool lost)),(161,.glob (GL mx)),(7,.box 26 [vi s3114,.fl (.own 5) 1 (map (int .u8) s3115),vb s3116,vi s3117,vi s3118,vi s3119,vb s3120]),(9,.box 33 [.fr .ro false 11 (flatten (map T_Item.ienc s3121)),vi s3122,.fl .ro 1 (map (int .i64) s3123),.fl .ro 1 (map (int .u8) s3124),vi s3125,.fl .ro 1 (map (int .i64) s3126)]),(10,.box 36 [vb s3127,vi s3128,vi s3129]),(11,vi s3130),(12,vi s3131)]) (fun (():Unit)=>[(161,.glob (GL mx))]) ?_ ?_
     ·rintro ⟨⟩ h
      refine pt_then ?_
      refine yyy hn 1 [161,6] ?_
      refine ht_ret ?_
      refine pt_pick [1] (by kernel_rfl) (es':=[(_,_)]) rfl ?_
      obtain rfl:=zi h
      exact pt_ret hio rfl (.tmp _ _ .nil) rfl rfl
     ·rintro u4661 hl4662 hr4663 ⟨s3114, s3115, s3116, s3117, s3118, s3119, s3120, s3121, s3122, s3123, s3124, s3125, s3126, s3127, s3128, s3129, s3130, s3131⟩ rr4666 h ho4664
      refine ht_seq ?_
      refine yyy hn 2 [1,2,161,7,9,10,11,12,56] ?_
      refine ht_cond _ rfl (fun hb4667 => ?_) (fun hb4667 => ?_)
      ·have h:=cond_t hb4667 h
       refine ht_skip ?_
       refine pt_then (ht_seq ?_)
       refine ht_block ?_
       refine ht_seq ?_
       obtain ⟨v14, hv14, h⟩:=zn h
       refine yx hn 1 ?_
       refine ys 0 ⟨lk call6 (ok_sender_Tick _ _ hv14)⟩ ?_
       refine ym 0 ?_
       refine yx_ 0 ?_
       refine yx_ 1 ?_
       refine yS (.box 26 [vi 0,vz,vb false,vi 0,vi 0,vi 0,vb false]) 0 ⟨oA (op_alloc _ _ zr26)⟩ ?_
       refine yk [62,13] [] ?_
       refine yt (13,.box 26 [vi v14.1.Number,.fl (.own 5) 1 (map (int .u8) v14.1.Data),vb v14.1.Ready,vi v14.1.Base,vi v14.1.Next,vi v14.1.Wait,vb v14.1.Over]) 0 ⟨op_store_take _ _ _ _ _ _ _ _ sz26 rfl rfl rfl (zl rfl) rfl rfl⟩ ?_
       refine ya 1 ?_
       refine yee [1,2,161,7,9,10,11,12,13,14,15] ?_
       refine ht_seq ?_
       refine yyy hn 2 [1,2,161,7,9,10,11,12,13,14,66] ?_
       refine ht_cond _ rfl (fun hb4668 => ?_) (fun hb4668 => ?_)
       ·have h:=cond_t hb4668 h
        refine yyy hn 1 [161,6] ?_
        refine ht_ret ?_
        refine pt_pick [1] (by kernel_rfl) (es':=[(_,_)]) rfl ?_
        refine pt_r_then ?_
        refine pt_r_in ?_
        refine pt_r_then ?_
        refine pt_r_then ?_
        refine pt_r_in ?_
        refine pt_r_then ?_
        have h:=hr4663 _ (ho4664 _ (zi h).symm).symm
        obtain rfl:=zi h
        exact pt_ret hio rfl (.tmp _ _ .nil) rfl rfl
       ·have h:=cond_f hb4668 h
        refine ht_skip ?_
        refine pt_then ?_
        refine yxx hn 0 ?_
        refine yk [13] [] ?_
        refine yt (67,.agg [vi v14.1.Number,.fl (.own 5) 1 (map (int .u8) v14.1.Data),vb v14.1.Ready,vi v14.1.Base,vi v14.1.Next,vi v14.1.Wait,vb v14.1.Over]) 0 ⟨op_loadA_take _ _ _ _ underlying26 rfl sz26 rfl rfl⟩ ?_
        refine yk [67,7] [] ?_
        refine yt (7,.box 26 [vi v14.1.Number,.fl (.own 5) 1 (map (int .u8) v14.1.Data),vb v14.1.Ready,vi v14.1.Base,vi v14.1.Next,vi v14.1.Wait,vb v14.1.Over]) 0 ⟨op_store_take _ _ _ _ _ _ _ _ sz26 rfl rfl rfl (zl rfl) rfl rfl⟩ ?_
        refine yee [1,2,161,7,9,10,11,12,14] ?_
        refine yyy hn 1 [1,2,161,7,9,10,11,12,14,16] ?_
        refine ht_loopS h (fun ((s5421,s5422,s5423,s5424,s5425,s5426,s5427,s5428,s5429,s5430,s5431,s5432,s5433,s5434,s5435,s5436,s5437,s5438):Int×(List Int)×Bool×Int×Int×Int×Bool×(List T_Item)×Int×(List Int)×(List Int)×Int×(List Int)×Bool×Int×Int×Int×Int)=>[(1,fb data),(2,.fl .shr 1 (map Value.bool lost)),(161,.glob (GL mx)),(7,.box 26 [vi s5421,.fl (.own 5) 1 (map (int .u8) s5422),vb s5423,vi s5424,vi s5425,vi s5426,vb s5427]),(9,.box 33 [.fr .ro false 11 (flatten (map T_Item.ienc s5428)),vi s5429,.fl .ro 1 (map (int .i64) s5430),.fl .ro 1 (map (int .u8) s5431),vi s5432,.fl .ro 1 (map (int .i64) s5433)]),(10,.box 36 [vb s5434,vi s5435,vi s5436]),(11,vi s5437),(12,vi s3131),(14,.fr (.own 44) false 5 (flatten (map T_Frame.ienc v14.2.1))),(16,vi s5438)]) (fun ((s5806,s5807,s5808,s5809,s5810,s5811,s5812,s5813,s5814,s5815,s5816,s5817,s5818,s5819,s5820,s5821,s5822):Int×(List Int)×Bool×Int×Int×Int×Bool×(List T_Item)×Int×(List Int)×(List Int)×Int×(List Int)×Bool×Int×Int×Int)=>[(1,fb data),(2,.fl .shr 1 (map Value.bool lost)),(161,.glob (GL mx)),(7,.box 26 [vi s5806,.fl (.own 5) 1 (map (int .u8) s5807),vb s5808,vi s5809,vi s5810,vi s5811,vb s5812]),(9,.box 33 [.fr .ro false 11 (flatten (map T_Item.ienc s5813)),vi s5814,.fl .ro 1 (map (int .i64) s5815),.fl .ro 1 (map (int .u8) s5816),vi s5817,.fl .ro 1 (map (int .i64) s5818)]),(10,.box 36 [vb s5819,vi s5820,vi s5821]),(11,vi s5822),(12,vi s3131)]) ?_ ?_
        ·rintro ⟨s5806, s5807, s5808, s5809, s5810, s5811, s5812, s5813, s5814, s5815, s5816, s5817, s5818, s5819, s5820, s5821, s5822⟩ h
         refine pt_inb ?_
         refine pt_then ?_
         obtain ⟨v1566, hv1566, h⟩:=zn h
         refine yx hn 1 ?_
         refine ys 0 ⟨lb hv1566⟩ ?_
         refine yw [12] 1 ?_
         refine ye [1,2,161,7,9,10,11,12] ?_
         exact pt_next _ (zi h).symm rfl
        ·rintro u5823 hl5824 hr5825 ⟨s5421, s5422, s5423, s5424, s5425, s5426, s5427, s5428, s5429, s5430, s5431, s5432, s5433, s5434, s5435, s5436, s5437, s5438⟩ rr5828 h ho5826
         refine ht_seq ?_
         refine yyy hn 4 [1,2,161,7,9,10,11,12,14,16,71] ?_
         refine ht_cond _ rfl (fun hb5829 => ?_) (fun hb5829 => ?_)
         ·have h:=cond_t hb5829 h
          refine ht_skip ?_
          refine pt_then (ht_seq ?_)
          refine ht_joinS h (fun ((s6003,s6004,s6005,s6006,s6007,s6008,s6009,s6010,s6011,s6012,s6013,s6014,s6015,s6016,s6017,s6018,s6019):Int×(List Int)×Bool×Int×Int×Int×Bool×(List T_Item)×Int×(List Int)×(List Int)×Int×(List Int)×Bool×Int×Int×Int)=>[(1,fb data),(2,.fl .shr 1 (map Value.bool lost)),(161,.glob (GL mx)),(7,.box 26 [vi s6003,.fl (.own 5) 1 (map (int .u8) s6004),vb s6005,vi s6006,vi s6007,vi s6008,vb s6009]),(9,.box 33 [.fr .ro false 11 (flatten (map T_Item.ienc s6010)),vi s6011,.fl .ro 1 (map (int .i64) s6012),.fl .ro 1 (map (int .u8) s6013),vi s6014,.fl .ro 1 (map (int .i64) s6015)]),(10,.box 36 [vb s6016,vi s6017,vi s6018]),(12,vi s3131),(14,.fr (.own 44) false 5 (flatten (map T_Frame.ienc v14.2.1))),(16,vi s5438),(11,vi s6019)]) ?_ ?_
          ·rintro ⟨s6003, s6004, s6005, s6006, s6007, s6008, s6009, s6010, s6011, s6012, s6013, s6014, s6015, s6016, s6017, s6018, s6019⟩ h
           refine pt_then ?_
           obtain ⟨v405, hv405, h⟩:=zn h
           refine yx hn 1 ?_
           refine ys 0 ⟨lb hv405⟩ ?_
           refine yw [16] 1 ?_
           refine ye [1,2,161,7,9,10,12,14,11,16] ?_
           refine pt_pick [0,1,2,3,4,5,8,6,7,9] (by kernel_rfl) (es':=[(_,_),(_,_),(_,_),(_,_),(_,_),(_,_),(_,_),(_,_),(_,_),(_,_)]) rfl ?_
           exact pt_next _ (zi h).symm rfl
          ·intro u6020 h hl6021 hr6022
           refine ht_block ?_
           refine ht_seq ?_
           obtain ⟨v17, hv17, h⟩:=zn h
           refine yx hn 1 ?_
           refine ys 0 ⟨lb hv17⟩ ?_
           refine yw [11] 1 ?_
           refine yee [1,2,161,7,9,10,12,14,16,11] ?_
           refine ht_seq ?_
           refine ht_seq ?_
           refine ht_joinS h (fun (s6023:Bool)=>[(1,fb data),(2,.fl .shr 1 (map Value.bool lost)),(161,.glob (GL mx)),(7,.box 26 [vi s5421,.fl (.own 5) 1 (map (int .u8) s5422),vb s5423,vi s5424,vi s5425,vi s5426,vb s5427]),(9,.box 33 [.fr .ro false 11 (flatten (map T_Item.ienc s5428)),vi s5429,.fl .ro 1 (map (int .i64) s5430),.fl .ro 1 (map (int .u8) s5431),vi s5432,.fl .ro 1 (map (int .i64) s5433)]),(10,.box 36 [vb s5434,vi s5435,vi s5436]),(12,vi s3131),(14,.fr (.own 44) false 5 (flatten (map T_Frame.ienc v14.2.1))),(16,vi s5438),(11,vi v17),(86,vb s6023)]) ?_ ?_
           ·rintro s6023 h
            refine pt_then ?_
            refine ht_cond _ rfl (fun hb6027 => ?_) (fun hb6027 => ?_)
            ·have h:=cond_t hb6027 h
             refine ht_exit ?_
             refine pt_x_then ?_
             refine pt_x_in ?_
             refine pt_pick [0,1,2,3,4,5,6,7,8,9] (by kernel_rfl) (es':=[(_,_),(_,_),(_,_),(_,_),(_,_),(_,_),(_,_),(_,_),(_,_),(_,_)]) rfl ?_
             exact hl6021 _ (zi h).symm
            ·have h:=cond_f hb6027 h
             refine ht_skip ?_
             refine pt_then (ht_seq ?_)
             obtain ⟨v26, hv26, h⟩:=zn h
             obtain ⟨v27, hv27, h⟩:=zn h
             obtain ⟨v28, hv28, h⟩:=zn h
             refine ht_anyR (by kernel_rfl) hn (El:=(_::_::_::_::_::_::_::_::_::_::_::(88,.agg [.fr .ro false 11 (flatten (map T_Item.ienc s5428)),vi s5429,.fl .ro 1 (map (int .i64) s5430),.fl .ro 1 (map (int .u8) s5431),vi s5432,.fl .ro 1 (map (int .i64) s5433)])::(89,.agg [vb s5434,vi s5435,vi s5436])::(90,.same (.slot 14))::(91,vi s5438)::(92,.eref (.slot 14) (v26 * 5))::(93,.agg [vi v27.Kind,vi v27.Number,vi v27.Offset,vi v27.Seq,.fl .ro 1 (map (int .u8) v27.Data)])::(94,.tup [.agg [vb v28.1.Open,vi v28.1.Number,vi v28.1.Total],.fr .shr true 15 (flatten (map T_Rec.ienc v28.2.1)),.fr .shr true 5 (flatten (map T_Frame.ienc v28.2.2.1)),vi v28.2.2.2])::(87,.tup [.agg [vb v28.1.Open,vi v28.1.Number,vi v28.1.Total],.any,.any,.any])::(87,.tup [.any,.fr .shr true 15 (flatten (map T_Rec.ienc v28.2.1)),.fr .shr true 5 (flatten (map T_Frame.ienc v28.2.2.1)),vi v28.2.2.2])::(95,.agg [vb v28.1.Open,vi v28.1.Number,vi v28.1.Total])::(87,.tup [.any,.any,.any,.any])::(96,.fr .shr true 15 (flatten (map T_Rec.ienc v28.2.1)))::(97,.fr .shr true 5 (flatten (map T_Frame.ienc v28.2.2.1)))::(98,vi v28.2.2.2)::(17,.box 36 [vb false,vi 0,vi 0])::(17,.box 36 [vb v28.1.Open,vi v28.1.Number,vi v28.1.Total])::(18,.fr .shr true 15 (flatten (map T_Rec.ienc v28.2.1)))::(19,.fr .shr true 5 (flatten (map T_Frame.ienc v28.2.2.1)))::(20,vi v28.2.2.2)::[])) (init:=[0,1,2,3,4,5,6,7,8,9,10]) (fin:=[0,1,2,3,4,5,6,7,8,9,26,27,28,29]) (sps:=(zq [4] 11 88::zq [5] 12 89::zq [7] 13 90::zq [8] 14 91::zq [13,7,14] 15 92::zq [15,7] 16 93::zq [11,12,16] 17 94::⟨[],[17],[18,19],[(.slot 87)]⟩::⟨[],[18],[21,20],[(.slot 95)]⟩::zq [19] 22 96::zq [19] 23 97::zq [19] 24 98::zq [] 25 17::⟨[20],[25],[26],[.cell 17 0,.cell 17 1,.cell 17 2]⟩::zq [22] 27 18::zq [23] 28 19::zq [24] 29 20::[])) (es':=[(_,_),(_,_),(_,_),(_,_),(_,_),(_,_),(_,_),(_,_),(_,_),(_,_),(17,.box 36 [vb v28.1.Open,vi v28.1.Number,vi v28.1.Total]),(18,.fr .shr true 15 (flatten (map T_Rec.ienc v28.2.1))),(19,.fr .shr true 5 (flatten (map T_Frame.ienc v28.2.2.1))),(20,vi v28.2.2.2)]) (by kernel_rfl) rfl rfl ⟨zp rfl (op_loadA _ _ _ _ _ _ _ underlying33 rfl sz33 rfl rfl (zl rfl) rfl rfl),zp rfl (op_loadA _ _ _ _ _ _ _ underlying36 rfl sz36 rfl rfl (zl rfl) rfl rfl),z1 rfl,z1 rfl,zp rfl (op_ix_fr _ _ _ _ _ _ _ _ underlying37 sz44 (by decide) rfl rfl rfl (ix_ok hv26).1 (gflat_lt T_Frame.ilen (ix_ok hv26).2) rfl),zp rfl (op_loadA_fr _ _ _ _ _ _ _ _ underlying44 rfl sz44 rfl rfl (gflat_get T_Frame.ilen hv27) (.cons (.v _) (.cons (.v _) (.cons (.v _) (.cons (.v _) (.cons (.fl _ _ rfl) (.nil)))))) rfl (by decide)),zp rfl (op_callS _ _ 7 _ _ rfl call7 rfl rfl (ok_taker_Hear_sh (T_Spool.mk s5428 s5429 s5430 s5431 s5432 s5433) (T_Take.mk s5434 s5435 s5436) v27 _ hv28) rfl),zp rfl (LOp.split (A:=[]) 87 0 _ _ _ (op_move_take _ _ _ _ rfl) (zl rfl) rfl rfl),zp rfl (op_extract_take _ _ _ _ _ rfl (zl rfl) rfl rfl (by decide) rfl),zp rfl (oE rfl),zp rfl (oE rfl),zp rfl (oE rfl),zp rfl (op_alloc _ _ zr36),zp rfl (oS sz36 rfl),z2 rfl,z2 rfl,z2 rfl,zz⟩ ?_
             refine pt_then (ht_seq ?_)
             refine yyy hn 2 [1,2,161,7,9,10,12,14,16,11,17,18,19,100] ?_
             refine ht_cond _ rfl (fun hb6028 => ?_) (fun hb6028 => ?_)
             ·have h:=cond_t hb6028 h
              refine ht_exit ?_
              refine pt_x_then ?_
              refine pt_x_in ?_
              refine pt_pick [0,1,2,3,4,5,6,7,8,9] (by kernel_rfl) (es':=[(_,_),(_,_),(_,_),(_,_),(_,_),(_,_),(_,_),(_,_),(_,_),(_,_)]) rfl ?_
              exact hl6021 _ (zi h).symm
             ·have h:=cond_f hb6028 h
              refine ht_skip ?_
              refine pt_then ?_
              refine yyy hn 2 [1,2,161,7,9,10,12,14,16,11,18,19] ?_
              refine ht_seq ?_
              refine yyy hn 1 [1,2,161,7,9,10,12,14,16,11,18,19,21] ?_
              refine ht_loopS h (fun ((s6040,s6041,s6042,s6043,s6044,s6045,s6046):(List T_Item)×Int×(List Int)×(List Int)×Int×(List Int)×Int)=>[(1,fb data),(2,.fl .shr 1 (map Value.bool lost)),(161,.glob (GL mx)),(7,.box 26 [vi s5421,.fl (.own 5) 1 (map (int .u8) s5422),vb s5423,vi s5424,vi s5425,vi s5426,vb s5427]),(9,.box 33 [.fr .ro false 11 (flatten (map T_Item.ienc s6040)),vi s6041,.fl .ro 1 (map (int .i64) s6042),.fl .ro 1 (map (int .u8) s6043),vi s6044,.fl .ro 1 (map (int .i64) s6045)]),(10,.box 36 [vb v28.1.Open,vi v28.1.Number,vi v28.1.Total]),(12,vi s3131),(14,.fr (.own 44) false 5 (flatten (map T_Frame.ienc v14.2.1))),(16,vi s5438),(11,vi v17),(18,.fr .shr true 15 (flatten (map T_Rec.ienc v28.2.1))),(19,.fr .shr true 5 (flatten (map T_Frame.ienc v28.2.2.1))),(21,vi s6046)]) (fun ((s6049,s6050,s6051,s6052,s6053,s6054):(List T_Item)×Int×(List Int)×(List Int)×Int×(List Int))=>[(1,fb data),(2,.fl .shr 1 (map Value.bool lost)),(161,.glob (GL mx)),(7,.box 26 [vi s5421,.fl (.own 5) 1 (map (int .u8) s5422),vb s5423,vi s5424,vi s5425,vi s5426,vb s5427]),(9,.box 33 [.fr .ro false 11 (flatten (map T_Item.ienc s6049)),vi s6050,.fl .ro 1 (map (int .i64) s6051),.fl .ro 1 (map (int .u8) s6052),vi s6053,.fl .ro 1 (map (int .i64) s6054)]),(10,.box 36 [vb v28.1.Open,vi v28.1.Number,vi v28.1.Total]),(12,vi s3131),(14,.fr (.own 44) false 5 (flatten (map T_Frame.ienc v14.2.1))),(16,vi s5438),(11,vi v17),(19,.fr .shr true 5 (flatten (map T_Frame.ienc v28.2.2.1)))]) ?_ ?_
              ·rintro ⟨s6049, s6050, s6051, s6052, s6053, s6054⟩ h
               refine pt_then (ht_seq ?_)
               refine ht_seq ?_
               obtain ⟨v68, hv68, h⟩:=zn h
               refine yx hn 2 ?_
               refine ys 0 ⟨lk call9 (ok_taker_Whole _ _ _ hv68)⟩ ?_
               refine yee [1,2,161,7,9,10,12,14,16,11,19,122] ?_
               refine ht_cond _ rfl (fun hb6063 => ?_) (fun hb6063 => ?_)
               ·have h:=cond_t hb6063 h
                refine ht_seq ?_
                refine ht_joinS h (fun (s6064:Bool)=>[(161,.glob (GL mx)),(6,vb s6064)]) ?_ ?_
                ·rintro s6064 h
                 refine pt_then (ht_ret ?_)
                 refine pt_pick [1] (by kernel_rfl) (es':=[(_,_)]) rfl ?_
                 refine pt_r_then ?_
                 refine pt_r_in ?_
                 refine pt_r_then ?_
                 refine pt_r_then ?_
                 refine pt_r_in ?_
                 refine pt_r_in ?_
                 refine pt_r_then ?_
                 refine pt_r_then ?_
                 refine pt_r_in ?_
                 refine pt_r_then ?_
                 have h:=hr6022 _ (zi h).symm
                 have h:=hr5825 _ (ho5826 _ (zi h).symm).symm
                 have h:=hr4663 _ (ho4664 _ (zi h).symm).symm
                 obtain rfl:=zi h
                 exact pt_ret hio rfl (.tmp _ _ .nil) rfl rfl
                ·intro u6065 h hl6066 hr6067
                 obtain ⟨v70, hv70, h⟩:=zn h
                 refine cond_some h (fun hg32_4 h => ?_) (fun hg32_4 h => ?_)
                 ·obtain ⟨v71, hv71, h⟩:=zn h
                  refine yx hn 3 ?_
                  refine ys 1 ⟨lk call10 (ok_wherrykeep_Bytes _ _ _ hv70)⟩ ?_
                  refine yd hg32_4 0 ?_
                  refine ys 2 ⟨lk call11 (ok_wherrylaw22_wakes _ hv71)⟩ ?_
                  refine ye [161,6] ?_
                  exact hl6066 _ (zi h).symm
                 ·refine yx hn 3 ?_
                  refine ys 1 ⟨lk call10 (ok_wherrykeep_Bytes _ _ _ hv70)⟩ ?_
                  refine yd hg32_4 3 ?_
                  refine ye [161,6] ?_
                  exact hl6066 _ (zi h).symm
               ·have h:=cond_f hb6063 h
                refine ht_skip ?_
                refine pt_then ?_
                refine yyy hn 1 [1,2,161,7,9,10,12,14,16,11,19,24] ?_
                refine ht_loopS h (fun ((s6125,s6126,s6127,s6128,s6129,s6130,s6131,s6132,s6133):Int×(List Int)×Bool×Int×Int×Int×Bool×Int×Int)=>[(1,fb data),(2,.fl .shr 1 (map Value.bool lost)),(161,.glob (GL mx)),(7,.box 26 [vi s6125,.fl (.own 5) 1 (map (int .u8) s6126),vb s6127,vi s6128,vi s6129,vi s6130,vb s6131]),(9,.box 33 [.fr .ro false 11 (flatten (map T_Item.ienc s6049)),vi s6050,.fl .ro 1 (map (int .i64) s6051),.fl .ro 1 (map (int .u8) s6052),vi s6053,.fl .ro 1 (map (int .i64) s6054)]),(10,.box 36 [vb v28.1.Open,vi v28.1.Number,vi v28.1.Total]),(12,vi s3131),(14,.fr (.own 44) false 5 (flatten (map T_Frame.ienc v14.2.1))),(16,vi s5438),(11,vi s6132),(19,.fr .shr true 5 (flatten (map T_Frame.ienc v28.2.2.1))),(24,vi s6133)]) (fun ((s6158,s6159,s6160,s6161,s6162,s6163,s6164,s6165):Int×(List Int)×Bool×Int×Int×Int×Bool×Int)=>[(1,fb data),(2,.fl .shr 1 (map Value.bool lost)),(161,.glob (GL mx)),(7,.box 26 [vi s6158,.fl (.own 5) 1 (map (int .u8) s6159),vb s6160,vi s6161,vi s6162,vi s6163,vb s6164]),(9,.box 33 [.fr .ro false 11 (flatten (map T_Item.ienc s6049)),vi s6050,.fl .ro 1 (map (int .i64) s6051),.fl .ro 1 (map (int .u8) s6052),vi s6053,.fl .ro 1 (map (int .i64) s6054)]),(10,.box 36 [vb v28.1.Open,vi v28.1.Number,vi v28.1.Total]),(12,vi s3131),(14,.fr (.own 44) false 5 (flatten (map T_Frame.ienc v14.2.1))),(16,vi s5438),(11,vi s6165)]) ?_ ?_
                ·rintro ⟨s6158, s6159, s6160, s6161, s6162, s6163, s6164, s6165⟩ h
                 refine pt_inb ?_
                 exact hl6021 _ (zi h).symm
                ·rintro u6166 hl6167 hr6168 ⟨s6125, s6126, s6127, s6128, s6129, s6130, s6131, s6132, s6133⟩ rr6171 h ho6169
                 refine ht_seq ?_
                 refine yyy hn 4 [1,2,161,7,9,10,12,14,16,11,19,24,133] ?_
                 refine ht_cond _ rfl (fun hb6172 => ?_) (fun hb6172 => ?_)
                 ·have h:=cond_t hb6172 h
                  refine ht_skip ?_
                  refine pt_then (ht_seq ?_)
                  refine ht_joinS h (fun ((s6179,s6180,s6181,s6182,s6183,s6184,s6185,s6186):Int×(List Int)×Bool×Int×Int×Int×Bool×Int)=>[(1,fb data),(2,.fl .shr 1 (map Value.bool lost)),(161,.glob (GL mx)),(7,.box 26 [vi s6179,.fl (.own 5) 1 (map (int .u8) s6180),vb s6181,vi s6182,vi s6183,vi s6184,vb s6185]),(9,.box 33 [.fr .ro false 11 (flatten (map T_Item.ienc s6049)),vi s6050,.fl .ro 1 (map (int .i64) s6051),.fl .ro 1 (map (int .u8) s6052),vi s6053,.fl .ro 1 (map (int .i64) s6054)]),(10,.box 36 [vb v28.1.Open,vi v28.1.Number,vi v28.1.Total]),(12,vi s3131),(14,.fr (.own 44) false 5 (flatten (map T_Frame.ienc v14.2.1))),(16,vi s5438),(19,.fr .shr true 5 (flatten (map T_Frame.ienc v28.2.2.1))),(24,vi s6133),(11,vi s6186)]) ?_ ?_
                  ·rintro ⟨s6179, s6180, s6181, s6182, s6183, s6184, s6185, s6186⟩ h
                   refine pt_then ?_
                   obtain ⟨v107, hv107, h⟩:=zn h
                   refine yx hn 1 ?_
                   refine ys 0 ⟨lb hv107⟩ ?_
                   refine yw [24] 1 ?_
                   refine ye [1,2,161,7,9,10,12,14,16,19,11,24] ?_
                   refine pt_pick [0,1,2,3,4,5,6,7,8,10,9,11] (by kernel_rfl) (es':=[(_,_),(_,_),(_,_),(_,_),(_,_),(_,_),(_,_),(_,_),(_,_),(_,_),(_,_),(_,_)]) rfl ?_
                   exact pt_next _ (zi h).symm rfl
                  ·intro u6187 h hl6188 hr6189
                   refine ht_block ?_
                   refine ht_seq ?_
                   obtain ⟨v77, hv77, h⟩:=zn h
                   refine yx hn 1 ?_
                   refine ys 0 ⟨lb hv77⟩ ?_
                   refine yw [11] 1 ?_
                   refine yee [1,2,161,7,9,10,12,14,16,19,24,11] ?_
                   refine ht_seq ?_
                   refine ht_seq ?_
                   refine ht_joinS h (fun (s6190:Bool)=>[(1,fb data),(2,.fl .shr 1 (map Value.bool lost)),(161,.glob (GL mx)),(7,.box 26 [vi s6125,.fl (.own 5) 1 (map (int .u8) s6126),vb s6127,vi s6128,vi s6129,vi s6130,vb s6131]),(9,.box 33 [.fr .ro false 11 (flatten (map T_Item.ienc s6049)),vi s6050,.fl .ro 1 (map (int .i64) s6051),.fl .ro 1 (map (int .u8) s6052),vi s6053,.fl .ro 1 (map (int .i64) s6054)]),(10,.box 36 [vb v28.1.Open,vi v28.1.Number,vi v28.1.Total]),(12,vi s3131),(14,.fr (.own 44) false 5 (flatten (map T_Frame.ienc v14.2.1))),(16,vi s5438),(19,.fr .shr true 5 (flatten (map T_Frame.ienc v28.2.2.1))),(24,vi s6133),(11,vi v77),(148,vb s6190)]) ?_ ?_
                   ·rintro s6190 h
                    refine pt_then ?_
                    refine ht_cond _ rfl (fun hb6194 => ?_) (fun hb6194 => ?_)
                    ·have h:=cond_t hb6194 h
                     refine ht_exit ?_
                     refine pt_x_then ?_
                     refine pt_x_in ?_
                     refine pt_pick [0,1,2,3,4,5,6,7,8,9,10,11] (by kernel_rfl) (es':=[(_,_),(_,_),(_,_),(_,_),(_,_),(_,_),(_,_),(_,_),(_,_),(_,_),(_,_),(_,_)]) rfl ?_
                     exact hl6188 _ (zi h).symm
                    ·have h:=cond_f hb6194 h
                     refine ht_skip ?_
                     refine pt_then (ht_seq ?_)
                     obtain ⟨v86, hv86, h⟩:=zn h
                     obtain ⟨v87, hv87, h⟩:=zn h
                     obtain ⟨v88, hv88, h⟩:=zn h
                     refine ht_anyR (by kernel_rfl) hn (El:=(_::_::_::_::_::_::_::_::_::_::_::_::_::(150,.agg [vi s6125,.same (.cell 7 1),vb s6127,vi s6128,vi s6129,vi s6130,vb s6131])::(151,.fr .shr true 5 (flatten (map T_Frame.ienc v28.2.2.1)))::(152,vi s6133)::(153,.eref (.slot 151) (v86 * 5))::(154,.agg (T_Frame.c v87 []))::(155,.tup [.agg [vi v88.1.Number,.fl (.own 5) 1 (map (int .u8) v88.1.Data),vb v88.1.Ready,vi v88.1.Base,vi v88.1.Next,vi v88.1.Wait,vb v88.1.Over],vi v88.2])::(149,.tup [.agg [vi v88.1.Number,.fl (.own 5) 1 (map (int .u8) v88.1.Data),vb v88.1.Ready,vi v88.1.Base,vi v88.1.Next,vi v88.1.Wait,vb v88.1.Over],.any])::(149,.tup [.any,vi v88.2])::(156,.agg [vi v88.1.Number,.fl (.own 5) 1 (map (int .u8) v88.1.Data),vb v88.1.Ready,vi v88.1.Base,vi v88.1.Next,vi v88.1.Wait,vb v88.1.Over])::(149,.tup [.any,.any])::(157,vi v88.2)::(25,.box 26 [vi 0,vz,vb false,vi 0,vi 0,vi 0,vb false])::(25,.box 26 [vi v88.1.Number,.fl (.own 5) 1 (map (int .u8) v88.1.Data),vb v88.1.Ready,vi v88.1.Base,vi v88.1.Next,vi v88.1.Wait,vb v88.1.Over])::(26,vi v88.2)::[])) (init:=[0,1,2,3,4,5,6,7,8,9,10,11,12]) (fin:=[0,1,2,3,4,5,6,7,8,9,10,11,25,26]) (sps:=[zq [3] 13 150,zq [9] 14 151,zq [10] 15 152,zq [14,15] 16 153,zq [16,14] 17 154,zq [13,3,17] 18 155,⟨[],[18],[19,20],[(.slot 149)]⟩,⟨[],[19],[22,21],[(.slot 156)]⟩,zq [20] 23 157,zq [] 24 25,⟨[],[21,24],[25],[.cell 25 0,.cell 25 1,.cell 25 2,.cell 25 3,.cell 25 4,.cell 25 5,.cell 25 6]⟩,zq [23] 26 26]) (es':=[(_,_),(_,_),(_,_),(_,_),(_,_),(_,_),(_,_),(_,_),(_,_),(_,_),(_,_),(_,_),(25,.box 26 [vi v88.1.Number,.fl (.own 5) 1 (map (int .u8) v88.1.Data),vb v88.1.Ready,vi v88.1.Base,vi v88.1.Next,vi v88.1.Wait,vb v88.1.Over]),(26,vi v88.2)]) (by kernel_rfl) rfl rfl ⟨zp rfl (op_loadA _ _ _ _ _ _ _ underlying26 rfl sz26 rfl rfl (zl rfl) rfl rfl),z1 rfl,z1 rfl,zp rfl (op_ix_fr _ _ _ _ _ _ _ _ underlying37 sz44 (by decide) rfl rfl rfl (ix_ok hv86).1 (gflat_lt T_Frame.ilen (ix_ok hv86).2) rfl),zp rfl (op_loadA_fr _ _ _ _ _ _ _ _ underlying44 rfl sz44 rfl rfl (gflat_get T_Frame.ilen hv87) (.cons (.v _) (.cons (.v _) (.cons (.v _) (.cons (.v _) (.cons (.fl _ _ rfl) (.nil)))))) rfl (by decide)),zp rfl (op_call _ _ 12 _ _ rfl call12 rfl (ok_sender_Hear (T_Send.mk s6125 s6126 s6127 s6128 s6129 s6130 s6131) v87 _ hv88) rfl rfl),zp rfl (LOp.split (A:=[]) 149 0 _ _ _ (op_move_take _ _ _ _ rfl) (zl rfl) rfl rfl),zp rfl (op_extract_take _ _ _ _ _ rfl (zl rfl) rfl rfl (by decide) rfl),zp rfl (oE rfl),zp rfl (op_alloc _ _ zr26),zp rfl (op_store_take _ _ _ _ _ _ _ _ sz26 rfl rfl rfl (zl rfl) rfl rfl),z2 rfl,zz⟩ ?_
                     refine pt_then ?_
                     refine yyy hn 2 [1,2,161,7,9,10,12,14,16,19,24,11,25,159] ?_
                     refine ht_cond _ rfl (fun hb6195 => ?_) (fun hb6195 => ?_)
                     ·have h:=cond_t hb6195 h
                      refine yx hn 0 ?_
                      refine yk [25] [] ?_
                      refine yt (160,.agg [vi v88.1.Number,.fl (.own 5) 1 (map (int .u8) v88.1.Data),vb v88.1.Ready,vi v88.1.Base,vi v88.1.Next,vi v88.1.Wait,vb v88.1.Over]) 0 ⟨op_loadA_take _ _ _ _ underlying26 rfl sz26 rfl rfl⟩ ?_
                      refine yk [160,7] [] ?_
                      refine yt (7,.box 26 [vi v88.1.Number,.fl (.own 5) 1 (map (int .u8) v88.1.Data),vb v88.1.Ready,vi v88.1.Base,vi v88.1.Next,vi v88.1.Wait,vb v88.1.Over]) 0 ⟨op_store_take _ _ _ _ _ _ _ _ sz26 rfl rfl rfl (zl rfl) rfl rfl⟩ ?_
                      refine ye [1,2,161,7,9,10,12,14,16,19,24,11] ?_
                      refine pt_inb ?_
                      exact hl6188 _ (zi h).symm
                     ·have h:=cond_f hb6195 h
                      refine ht_skip ?_
                      refine pt_inb ?_
                      refine pt_pick [0,1,2,3,4,5,6,7,8,9,10,11] (by kernel_rfl) (es':=[(_,_),(_,_),(_,_),(_,_),(_,_),(_,_),(_,_),(_,_),(_,_),(_,_),(_,_),(_,_)]) rfl ?_
                      exact hl6188 _ (zi h).symm
                   ·intro u6191 h hl6192 hr6193
                    refine cond_some h (fun hg37_4 h => ?_) (fun hg37_4 h => ?_)
                    ·obtain ⟨v78, hv78, h⟩:=zn h
                     obtain ⟨v79, hv79, h⟩:=zn h
                     obtain ⟨v80, hv80, h⟩:=zn h
                     refine yx hn 5 ?_
                     refine yd hg37_4 2 ?_
                     refine ys 0 ⟨lb hv78⟩ ?_
                     refine ys 0 ⟨li hv79⟩ ?_
                     refine ys 1 ⟨ll hv80⟩ ?_
                     refine ye [1,2,161,7,9,10,12,14,16,19,24,11,148] ?_
                     exact hl6192 _ (zi h).symm
                    ·refine yx hn 5 ?_
                     refine yd hg37_4 6 ?_
                     refine ye [1,2,161,7,9,10,12,14,16,19,24,11,148] ?_
                     exact hl6192 _ (zi h).symm
                 ·have h:=cond_f hb6172 h
                  refine ht_exit ?_
                  refine pt_x_then ?_
                  refine pt_x_then ?_
                  refine pt_x_in ?_
                  refine pt_pick [0,1,2,3,4,5,6,7,8,9] (by kernel_rfl) (es':=[(_,_),(_,_),(_,_),(_,_),(_,_),(_,_),(_,_),(_,_),(_,_),(_,_)]) rfl ?_
                  exact hl6167 _ (ho6169 _ (zi h).symm).symm
              ·rintro u6055 hl6056 hr6057 ⟨s6040, s6041, s6042, s6043, s6044, s6045, s6046⟩ rr6060 h ho6058
               refine ht_seq ?_
               refine yyy hn 4 [1,2,161,7,9,10,12,14,16,11,18,19,21,105] ?_
               refine ht_cond _ rfl (fun hb6061 => ?_) (fun hb6061 => ?_)
               ·have h:=cond_t hb6061 h
                refine ht_skip ?_
                refine pt_then (ht_seq ?_)
                refine ht_block ?_
                refine ht_seq ?_
                obtain ⟨v31, hv31, h⟩:=zn h
                obtain ⟨v32, hv32, h⟩:=zn h
                obtain ⟨v33, hv33, h⟩:=zn h
                refine ht_anyR (by kernel_rfl) hn (El:=(_::_::_::_::_::_::_::_::_::_::_::_::_::_::(109,.agg [.fr .ro false 11 (flatten (map T_Item.ienc s6040)),vi s6041,.fl .ro 1 (map (int .i64) s6042),.fl .ro 1 (map (int .u8) s6043),vi s6044,.fl .ro 1 (map (int .i64) s6045)])::(110,.fr .shr true 15 (flatten (map T_Rec.ienc v28.2.1)))::(111,vi s6046)::(112,.eref (.slot 110) (v31 * 15))::(113,.agg (T_Rec.c v32 []))::(114,.tup [.agg [.fr (.own 88) false 11 (flatten (map T_Item.ienc v33.1.Items)),vi v33.1.Packs,.fl (.own 3) 1 (map (int .i64) v33.1.Sent),.fl (.own 5) 1 (map (int .u8) v33.1.Part),vi v33.1.Of,.fl (.own 3) 1 (map (int .i64) v33.1.Done)],vi v33.2])::(108,.tup [.agg [.fr (.own 88) false 11 (flatten (map T_Item.ienc v33.1.Items)),vi v33.1.Packs,.fl (.own 3) 1 (map (int .i64) v33.1.Sent),.fl (.own 5) 1 (map (int .u8) v33.1.Part),vi v33.1.Of,.fl (.own 3) 1 (map (int .i64) v33.1.Done)],.any])::(108,.tup [.any,vi v33.2])::(115,.agg [.fr (.own 88) false 11 (flatten (map T_Item.ienc v33.1.Items)),vi v33.1.Packs,.fl (.own 3) 1 (map (int .i64) v33.1.Sent),.fl (.own 5) 1 (map (int .u8) v33.1.Part),vi v33.1.Of,.fl (.own 3) 1 (map (int .i64) v33.1.Done)])::(108,.tup [.any,.any])::(116,vi v33.2)::(22,.box 33 [vz,vi 0,vz,vz,vi 0,vz])::(22,.box 33 [.fr (.own 88) false 11 (flatten (map T_Item.ienc v33.1.Items)),vi v33.1.Packs,.fl (.own 3) 1 (map (int .i64) v33.1.Sent),.fl (.own 5) 1 (map (int .u8) v33.1.Part),vi v33.1.Of,.fl (.own 3) 1 (map (int .i64) v33.1.Done)])::(23,vi v33.2)::[])) (init:=[0,1,2,3,4,5,6,7,8,9,10,11,12,13]) (fin:=[0,1,2,3,4,5,6,7,8,9,10,11,12,26,27]) (sps:=[zq [4] 14 109,zq [10] 15 110,zq [12] 16 111,zq [15,16] 17 112,zq [17,15] 18 113,zq [14,18,2] 19 114,⟨[],[19],[20,21],[(.slot 108)]⟩,⟨[],[20],[23,22],[(.slot 115)]⟩,zq [21] 24 116,zq [] 25 22,⟨[],[22,25],[26],[.cell 22 0,.cell 22 1,.cell 22 2,.cell 22 3,.cell 22 4,.cell 22 5]⟩,zq [24] 27 23]) (es':=((_,_)::(_,_)::(_,_)::(_,_)::(_,_)::(_,_)::(_,_)::(_,_)::(_,_)::(_,_)::(_,_)::(_,_)::(_,_)::(22,.box 33 [.fr (.own 88) false 11 (flatten (map T_Item.ienc v33.1.Items)),vi v33.1.Packs,.fl (.own 3) 1 (map (int .i64) v33.1.Sent),.fl (.own 5) 1 (map (int .u8) v33.1.Part),vi v33.1.Of,.fl (.own 3) 1 (map (int .i64) v33.1.Done)])::(23,vi v33.2)::[])) (by kernel_rfl) rfl rfl ⟨zp rfl (op_loadA _ _ _ _ _ _ _ underlying33 rfl sz33 rfl rfl (zl rfl) rfl rfl),z1 rfl,z1 rfl,zp rfl (op_ix_fr _ _ _ _ _ _ _ _ underlying40 sz53 (by decide) rfl rfl rfl (ix_ok hv31).1 (gflat_lt T_Rec.ilen (ix_ok hv31).2) rfl),zp rfl (op_loadA_fr _ _ _ _ _ _ _ _ underlying53 rfl sz53 rfl rfl (gflat_get T_Rec.ilen hv32) (.cons (.v _) (.cons (.v _) (.cons (.v _) (.cons (.v _) (.cons (.fl _ _ rfl) (.cons (.fl _ _ rfl) (.cons (.v _) (.cons (.v _) (.cons (.v _) (.cons (.v _) (.cons (.fl _ _ rfl) (.cons (.v _) (.cons (.v _) (.cons (.v _) (.cons (.fl _ _ rfl) (.nil)))))))))))))))) rfl (by decide)),zp rfl (op_callG _ _ 161 8 _ _ rfl call8 rfl rfl (fun _ h=>h) (ok_spool_Add mx (T_Spool.mk s6040 s6041 s6042 s6043 s6044 s6045) ((T_Rec.mk v32.Kind ((T_Mail.mk (T_Path.mk v32.Mail.From.Null v32.Mail.From.Local v32.Mail.From.Domain) v32.Mail.To v32.Mail.Body v32.Mail.Quiet v32.Mail.Helo v32.Mail.At)) v32.Id v32.Ids v32.Origin v32.Number v32.Offset v32.Data)) _ hv33) rfl rfl),zp rfl (LOp.split (A:=[]) 108 0 _ _ _ (op_move_take _ _ _ _ rfl) (zl rfl) rfl rfl),zp rfl (op_extract_take _ _ _ _ _ rfl (zl rfl) rfl rfl (by decide) rfl),zp rfl (oE rfl),zp rfl (op_alloc _ _ zr33),zp rfl (op_store_take _ _ _ _ _ _ _ _ sz33 rfl rfl rfl (zl rfl) rfl rfl),z2 rfl,zz⟩ ?_
                refine pt_then (ht_seq ?_)
                refine yyy hn 2 [1,2,161,7,9,10,12,14,16,11,18,19,21,22,118] ?_
                refine ht_cond _ rfl (fun hb6062 => ?_) (fun hb6062 => ?_)
                ·have h:=cond_t hb6062 h
                 refine yyy hn 1 [161,6] ?_
                 refine ht_ret ?_
                 refine pt_pick [1] (by kernel_rfl) (es':=[(_,_)]) rfl ?_
                 refine pt_r_then ?_
                 refine pt_r_in ?_
                 refine pt_r_then ?_
                 refine pt_r_then ?_
                 refine pt_r_in ?_
                 refine pt_r_then ?_
                 refine pt_r_in ?_
                 refine pt_r_then ?_
                 refine pt_r_then ?_
                 refine pt_r_in ?_
                 refine pt_r_in ?_
                 refine pt_r_then ?_
                 refine pt_r_then ?_
                 refine pt_r_in ?_
                 refine pt_r_then ?_
                 have h:=hr6057 _ (ho6058 _ (zi h).symm).symm
                 have h:=hr6022 _ (zi h).symm
                 have h:=hr5825 _ (ho5826 _ (zi h).symm).symm
                 have h:=hr4663 _ (ho4664 _ (zi h).symm).symm
                 obtain rfl:=zi h
                 exact pt_ret hio rfl (.tmp _ _ .nil) rfl rfl
                ·have h:=cond_f hb6062 h
                 refine ht_skip ?_
                 refine pt_then ?_
                 refine yx hn 0 ?_
                 refine yk [22] [] ?_
                 refine yt (119,.agg [.fr (.own 88) false 11 (flatten (map T_Item.ienc v33.1.Items)),vi v33.1.Packs,.fl (.own 3) 1 (map (int .i64) v33.1.Sent),.fl (.own 5) 1 (map (int .u8) v33.1.Part),vi v33.1.Of,.fl (.own 3) 1 (map (int .i64) v33.1.Done)]) 0 ⟨op_loadA_take _ _ _ _ underlying33 rfl sz33 rfl rfl⟩ ?_
                 refine yk [119,9] [] ?_
                 refine yt (9,.box 33 [.fr (.own 88) false 11 (flatten (map T_Item.ienc v33.1.Items)),vi v33.1.Packs,.fl (.own 3) 1 (map (int .i64) v33.1.Sent),.fl (.own 5) 1 (map (int .u8) v33.1.Part),vi v33.1.Of,.fl (.own 3) 1 (map (int .i64) v33.1.Done)]) 0 ⟨op_store_take _ _ _ _ _ _ _ _ sz33 rfl rfl rfl (zl rfl) rfl rfl⟩ ?_
                 refine ye [1,2,161,7,9,10,12,14,16,11,18,19,21] ?_
                 refine pt_inb ?_
                 refine pt_then ?_
                 obtain ⟨v35, hv35, h⟩:=zn h
                 refine yx hn 1 ?_
                 refine ys 0 ⟨lb hv35⟩ ?_
                 refine yw [21] 1 ?_
                 refine ye [1,2,161,7,9,10,12,14,16,11,18,19,21] ?_
                 refine pt_frz 4 hio (es':=[(1, fb data), (2, .fl .shr 1 (map Value.bool lost)), (161, .glob (GL mx)), (7, .box 26 [.v (.int .i64 s5421),.fl (.own 5) 1 (map (int .u8) s5422),.v (.bool s5423),.v (.int .i64 s5424),.v (.int .i64 s5425),.v (.int .i64 s5426),.v (.bool s5427)]), (9, .box 33 [.fr .ro false 11 (flatten (map T_Item.ienc v33.1.Items)),.v (.int .i64 v33.1.Packs),.fl .ro 1 (map (int .i64) v33.1.Sent),.fl .ro 1 (map (int .u8) v33.1.Part),.v (.int .i64 v33.1.Of),.fl .ro 1 (map (int .i64) v33.1.Done)]), (10, .box 36 [.v (.bool v28.1.Open),.v (.int .i64 v28.1.Number),.v (.int .i64 v28.1.Total)]), (12, .v (.int .i64 s3131)), (14, .fr (.own 44) false 5 (flatten (map T_Frame.ienc v14.2.1))), (16, .v (.int .i64 s5438)), (11, .v (.int .i64 v17)), (18, .fr .shr true 15 (flatten (map T_Rec.ienc v28.2.1))), (19, .fr .shr true 5 (flatten (map T_Frame.ienc v28.2.2.1))), (21, .v (.int .i64 v35))]) rfl ?_
                 exact pt_next _ (zi h).symm rfl
               ·have h:=cond_f hb6061 h
                refine ht_exit ?_
                refine pt_x_then ?_
                refine pt_x_then ?_
                refine pt_x_in ?_
                refine pt_pick [0,1,2,3,4,5,6,7,8,9,11] (by kernel_rfl) (es':=[(_,_),(_,_),(_,_),(_,_),(_,_),(_,_),(_,_),(_,_),(_,_),(_,_),(_,_)]) rfl ?_
                exact hl6056 _ (ho6058 _ (zi h).symm).symm
           ·intro u6024 h hl6025 hr6026
            refine cond_some h (fun hg20_4 h => ?_) (fun hg20_4 h => ?_)
            ·obtain ⟨v18, hv18, h⟩:=zn h
             obtain ⟨v19, hv19, h⟩:=zn h
             obtain ⟨v20, hv20, h⟩:=zn h
             refine yx hn 5 ?_
             refine yd hg20_4 2 ?_
             refine ys 0 ⟨lb hv18⟩ ?_
             refine ys 0 ⟨li hv19⟩ ?_
             refine ys 1 ⟨ll hv20⟩ ?_
             refine ye [1,2,161,7,9,10,12,14,16,11,86] ?_
             exact hl6025 _ (zi h).symm
            ·refine yx hn 5 ?_
             refine yd hg20_4 6 ?_
             refine ye [1,2,161,7,9,10,12,14,16,11,86] ?_
             exact hl6025 _ (zi h).symm
         ·have h:=cond_f hb5829 h
          refine ht_exit ?_
          refine pt_x_then ?_
          refine pt_x_then ?_
          refine pt_x_in ?_
          refine pt_pick [0,1,2,3,4,5,6,7] (by kernel_rfl) (es':=[(_,_),(_,_),(_,_),(_,_),(_,_),(_,_),(_,_),(_,_)]) rfl ?_
          exact hl5824 _ (ho5826 _ (zi h).symm).symm
      ·have h:=cond_f hb4667 h
       refine ht_exit ?_
       refine pt_x_then ?_
       refine pt_x_then ?_
       refine pt_x_in ?_
       refine pt_pick [2] (by kernel_rfl) (es':=[(_,_)]) rfl ?_
       exact hl4662 _ (ho4664 _ (zi h).symm).symm
  ·intro u2 h hl3 hr4
   refine cond_some h (fun hg1_3 h => ?_) (fun hg1_3 h => ?_)
   ·refine yx hn 4 ?_
    refine yd hg1_3 9 ?_
    refine ye [0,1,2,161,39] ?_
    exact hl3 _ (zi h).symm
   ·refine cond_some h (fun hg1_8 h => ?_) (fun hg1_8 h => ?_)
    ·refine yx hn 4 ?_
     refine yd hg1_3 5 ?_
     refine yd hg1_8 4 ?_
     refine ye [0,1,2,161,39] ?_
     exact hl3 _ (zi h).symm
    ·refine yx hn 4 ?_
     refine yd hg1_3 5 ?_
     refine yd hg1_8 4 ?_
     refine ye [0,1,2,161,39] ?_
     exact hl3 _ (zi h).symm

end Go.Proofs.YthhebpiaknfnhaaGreatDoor
