/-
  The model's runs are what is told in Lean.
-/
import Derived.Test.YtofbofdggabfiaaDoorProg
import Derived.KernelRfl
import Derived.Test.YtofbofdggabfiaaDoorShelf
import Derived.Test.YtofbofdggabfiaaDoorB3
import Derived.Test.YtofbofdggabfiaaDoorOkc1
set_option linter.unusedVariables false
set_option linter.unusedSimpArgs false
set_option maxHeartbeats 1000000
namespace Go.Proofs.YtofbofdggabfiaaDoor
open Go.Abs Go.Abs.Sh Tryd
open List (map flatten)
open Value (int)
theorem ok_tally_Waits (s : T_Spool) (r : Int) (h : Sh.tally_Waits s = some r) : FnOK Tryd.prog 17 [.agg [.fr .shr true 11 (flatten (map T_Item.ienc s.Items)), .v (.int .i64 s.Packs), .fl .shr 1 (map (int .i64) s.Sent), .fl .shr 1 (map (int .u8) s.Part), .v (.int .i64 s.Of), .fl .shr 1 (map (int .i64) s.Done)]] (.v (.int .i64 r)) := by
  unfold Sh.tally_Waits at h
  refine fn_ok func17 rfl (zl rfl) rfl rfl fun g0 hn hio => ?_
  refine zgg hn [_,(1,.box 43 [.fr .shr true 11 (flatten (map T_Item.ienc s.Items)),vi s.Packs,.fl .shr 1 (map (int .i64) s.Sent),.fl .shr 1 (map (int .u8) s.Part),vi s.Of,.fl .shr 1 (map (int .i64) s.Done)]),(2,vi 0)] [0] [1] [zq [0] 1 1,zq [] 2 2] [(_,_)] rfl ⟨zp rfl (op_box _ _ _ _ rfl rfl rfl),z2 rfl,zz⟩ ?_
  refine zgg hn [_,(3,vi 0)] [0] [0,1] [zq [] 1 3] [(_,_),(_,_)] rfl ⟨z2 rfl,zz⟩ ?_
  refine ht_seq ?_
  refine zgg hn [_,_,(6,.ptr 1 0),(7,.fr .shr true 11 (flatten (map T_Item.ienc s.Items))),(8,vi (s.Items.length : Int)),(9,vi 0)] [0,1] [1,3,4,5] [zq [0] 2 6,zq [2,0] 3 7,zq [3] 4 8,zq [] 5 9] [(_,_),(_,_),(_,_),(_,_)] rfl ⟨zp rfl (oF underlying43 rfl sz41),zp rfl (oL underlying41 rfl),zp rfl (op_len_fr _ _ _ underlying41 rfl (by decide) (gflat_len T_Item.ilen _)),z1 rfl,zz⟩ ?_
  refine ht_loopS h (fun ((s22, s23) : Int × Int) => [(3, .v (.int .i64 s22)), (7, .fr .shr true 11 (flatten (map T_Item.ienc s.Items))), (8, .v (.int .i64 (s.Items.length : Int))), (9, .v (.int .i64 s23))]) (fun (s31 : Int) => [(3, .v (.int .i64 s31))]) ?_ ?_
  ·rintro s31 h
   refine pt_then ?_
   refine zgg hn [_,(18,vi s31),(2,vi s31)] [0] [2] [zq [0] 1 18,zq [1] 2 2] [(_,_)] rfl ⟨z1 rfl,z2 rfl,zz⟩ ?_
   refine ht_ret ?_
   obtain rfl := zi h
   exact pt_ret hio rfl (.tmp _ _ .nil) rfl rfl
  ·rintro u32 hl33 hr34 ⟨s22, s23⟩ rr37 h ho35
   refine zgg hn [_,_,_,_,(10,vb (decide (s23 < (s.Items.length : Int))))] [0,1,2,3] [0,1,2,3,4] [zq [3,2] 4 10] [(_,_),(_,_),(_,_),(_,_),(_,_)] rfl ⟨z4 rfl rfl,zz⟩ ?_
   refine ht_seq ?_
   refine ht_cond _ rfl (fun hb38 => ?_) (fun hb38 => ?_)
   ·have h := cond_t hb38 h
    refine ht_skip ?_
    refine pt_then (ht_seq ?_)
    refine ht_joinS h (fun (s40 : Int) => [(7, .fr .shr true 11 (flatten (map T_Item.ienc s.Items))), (8, .v (.int .i64 (s.Items.length : Int))), (9, .v (.int .i64 s23)), (3, .v (.int .i64 s40))]) ?_ ?_
    ·rintro s40 h
     refine pt_then ?_
     obtain ⟨v12, hv12, h⟩ := zn h
     refine zg hn [_,_,_,_,(17,vi v12),(9,vi v12)] [0,1,2,3] [0,1,3,5] [zq [2] 4 17,⟨[4],[2],[5],[(.slot 9)]⟩] [(_,_),(_,_),(_,_),(_,_)] rfl ⟨zp rfl (oB rfl (ibind (f := int .i64) (Option.some.inj hv12))),zp rfl (LOp.drop [_] (oM rfl)),zz⟩ ?_
     refine pt_pick [2, 0, 1, 3] (by kernel_rfl) (es' := [(_,_),(_,_),(_,_),(_,_)]) rfl ?_
     exact pt_next _ (zi h).symm rfl
    ·intro u41 h hl42 hr43
     refine ht_block ?_
     refine ht_seq ?_
     obtain ⟨v2, hv2, h⟩ := zn h
     obtain ⟨v3, hv3, h⟩ := zn h
     refine zg hn [_,_,_,_,_,(11,.eref (.slot 7) (v2 * 11)),(12,.agg [vi v3.Id,vb v3.Mail.From.Null,vs v3.Mail.From.Local,vs v3.Mail.From.Domain,.fl .shr 3 (flatten (map T_Path.enc v3.Mail.To)),.fl .shr 1 (map (int .u8) v3.Mail.Body),vb v3.Mail.Quiet,vs v3.Mail.Helo,vi v3.Mail.At,vi v3.State,vi v3.Pack]),(5,.box 75 [vi 0,vb false,vs z0,vs z0,.v (.slice none 0 0),.v (.slice none 0 0),vb false,vs z0,vi 0,vi 0,vi 0]),(5,.box 75 [vi v3.Id,vb v3.Mail.From.Null,vs v3.Mail.From.Local,vs v3.Mail.From.Domain,.fl .shr 3 (flatten (map T_Path.enc v3.Mail.To)),.fl .shr 1 (map (int .u8) v3.Mail.Body),vb v3.Mail.Quiet,vs v3.Mail.Helo,vi v3.Mail.At,vi v3.State,vi v3.Pack])] [0,1,2,3,4] [0,1,2,3,8] [zq [1,3] 5 11,zq [5,1] 6 12,zq [] 7 5,⟨[6],[7],[8],[.cell 5 0,.cell 5 1,.cell 5 2,.cell 5 3,.cell 5 4,.cell 5 5,.cell 5 6,.cell 5 7,.cell 5 8,.cell 5 9,.cell 5 10]⟩] [(_,_),(_,_),(_,_),(_,_),(_,_)] rfl ⟨zp rfl (op_ix_fr _ _ _ _ _ _ _ _ underlying41 sz75 (by decide) rfl rfl rfl (ix_ok hv2).1 (gflat_lt T_Item.ilen (ix_ok hv2).2) rfl),zp rfl (op_loadA_fr _ _ _ _ _ _ _ _ underlying75 rfl sz75 rfl rfl (gflat_get T_Item.ilen hv3) (.cons (.v _) (.cons (.v _) (.cons (.v _) (.cons (.v _) (.cons (.fl _ _ rfl) (.cons (.fl _ _ rfl) (.cons (.v _) (.cons (.v _) (.cons (.v _) (.cons (.v _) (.cons (.v _) (.nil)))))))))))) rfl (by decide)),zp rfl (op_alloc _ _ zr75),zp rfl (oS sz75 rfl),zz⟩ ?_
     refine pt_then (ht_seq ?_)
     obtain ⟨v4, hv4, h⟩ := zn h
     refine zg hn [_,_,_,_,_,(13,.agg [vi v3.Id,vb v3.Mail.From.Null,vs v3.Mail.From.Local,vs v3.Mail.From.Domain,.fl .shr 3 (flatten (map T_Path.enc v3.Mail.To)),.fl .shr 1 (map (int .u8) v3.Mail.Body),vb v3.Mail.Quiet,vs v3.Mail.Helo,vi v3.Mail.At,vi v3.State,vi v3.Pack]),(14,vb v4)] [0,1,2,3,4] [0,1,2,3,6] [zq [4] 5 13,zq [5] 6 14] [(_,_),(_,_),(_,_),(_,_),(_,_)] rfl ⟨zp rfl (op_loadA _ _ _ _ _ _ _ underlying75 rfl sz75 rfl rfl (zl rfl) rfl rfl),zp rfl (op_call _ _ 35 _ _ rfl call35 rfl (ok_tally_waits ((T_Item.mk v3.Id ((T_Mail.mk (T_Path.mk v3.Mail.From.Null v3.Mail.From.Local v3.Mail.From.Domain) v3.Mail.To v3.Mail.Body v3.Mail.Quiet v3.Mail.Helo v3.Mail.At)) v3.State v3.Pack)) _ hv4) rfl rfl),zz⟩ ?_
     refine pt_then ?_
     refine ht_cond _ rfl (fun hb44 => ?_) (fun hb44 => ?_)
     ·have h := cond_t hb44 h
      obtain ⟨v6, hv6, h⟩ := zn h
      refine zg hn [_,_,_,_,_,(15,vi s22),(16,vi v6),(3,vi v6)] [0,1,2,3,4] [1,2,3,7] [zq [0] 5 15,zq [5] 6 16,⟨[6],[0],[7],[(.slot 3)]⟩] [(_,_),(_,_),(_,_),(_,_)] rfl ⟨z1 rfl,zp rfl (oB rfl (ibind (f := int .i64) (Option.some.inj hv6))),zp rfl (LOp.drop [_] (op_assign _ _ _ _ rfl rfl)),zz⟩ ?_
      refine pt_inb ?_
      exact hl42 _ (zi h).symm
     ·have h := cond_f hb44 h
      refine ht_skip ?_
      refine pt_inb ?_
      refine pt_pick [1, 2, 3, 0] (by kernel_rfl) (es' := [(_,_),(_,_),(_,_),(_,_)]) rfl ?_
      exact hl42 _ (zi h).symm
   ·have h := cond_f hb38 h
    refine ht_exit ?_
    refine pt_x_then ?_
    refine pt_x_then ?_
    refine pt_x_in ?_
    refine pt_pick [0] (by kernel_rfl) (es' := [(_,_)]) rfl ?_
    exact hl33 _ (ho35 _ (zi h).symm).symm
theorem ok_wherrylaw26_wakes (mx : Int) (r : Bool) (h : Sh.wherrylaw26_wakes  = some r) : FnG Tryd.prog (GL mx) 12 [] (.v (.bool r)) := by
  unfold Sh.wherrylaw26_wakes at h
  refine fn_okG func12 rfl (zl rfl) rfl rfl fun g0 hn hio => ?_
  refine zgg hn [_,(0,vb false)] [0] [0] [zq [] 1 0] [(_,_)] rfl ⟨z2 rfl,zz⟩ ?_
  refine zgg hn [_,(4,.agg [vb false,vs (⟨#[97]⟩ : ByteArray),vs (⟨#[98]⟩ : ByteArray)]),(5,.fl (.own 5) 1 (map (int .u8) [120])),(6,.fl .ro 1 (map (int .u8) [120])),(7,.agg [vi 1,vi 1,vb false,vs z0,vs z0,vb false,vs (⟨#[97]⟩ : ByteArray),vs (⟨#[98]⟩ : ByteArray),.fl .ro 1 (map (int .u8) [120])]),(1,.box 64 [vi 0,vi 0,vb false,vs z0,vs z0,vb false,vs z0,vs z0,.v (.slice none 0 0)]),(1,.box 64 [vi 1,vi 1,vb false,vs z0,vs z0,vb false,vs (⟨#[97]⟩ : ByteArray),vs (⟨#[98]⟩ : ByteArray),.fl .ro 1 (map (int .u8) [120])])] [0] [0,6] [zq [] 1 4,zq [] 2 5,⟨[],[2],[3],[(.slot 6)]⟩,zq [1,3] 4 7,zq [] 5 1,⟨[4],[5],[6],[.cell 1 0,.cell 1 1,.cell 1 2,.cell 1 3,.cell 1 4,.cell 1 5,.cell 1 6,.cell 1 7,.cell 1 8]⟩] [(_,_),(_,_)] rfl ⟨zp rfl (op_build _ _ _ _ [1, 1, 1] _ _ underlying24 zr24 (fs24 _ underlying24) (.copy _ (.copy _ Src.nil)) rfl rfl rfl),zp rfl (op_buildSlice _ _ 1 (.int .u8 0) (map (int .u8) [120]) [(0, .int .u8 120)] underlying25 sz5 zr5 (fun _ V w o a hv hes => by simp only [List.map_toArray, List.map_cons, List.map_nil]; try rfl) (litfill (by simp [Instr.fill, Value.cells]; rfl) (by simp [List.range, List.range.loop] <;> rfl)) (by simp [Value.oneCell']) rfl (by decide) (by decide) (by decide)),zp rfl (op_conv_mark _ _ _ underlying25 underlying5 (by intro h; cases h)),zp rfl (op_build _ _ _ _ [1, 1, 3, 3, 1] _ _ underlying64 zr64 (fs64 _ underlying64) (.copy _ (.copy _ (.copy _ (.copy _ Src.nil)))) rfl rfl rfl),zp rfl (op_alloc _ _ zr64),zp rfl (oS sz64 rfl),zz⟩ ?_
  refine ht_seq ?_
  obtain ⟨v1, hv1, h⟩ := zn h
  refine zg hn (_::_::(9,.agg [vi 1,vi 1,vb false,vs z0,vs z0,vb false,vs (⟨#[97]⟩ : ByteArray),vs (⟨#[98]⟩ : ByteArray),.fl .ro 1 (map (int .u8) [120])])::(10,.agg [vi 1,vi 1,vb false,vs z0,vs z0,vb false,vs (⟨#[97]⟩ : ByteArray),vs (⟨#[98]⟩ : ByteArray),.fl .ro 1 (map (int .u8) [120])])::(11,.fr (.own 64) false 9 (flatten (map T_Event.ienc ([(T_Event.mk 1 1 ((T_Path.mk false z0 z0)) ((T_Path.mk false (⟨#[97]⟩ : ByteArray) (⟨#[98]⟩ : ByteArray))) [120]),(T_Event.mk 1 1 ((T_Path.mk false z0 z0)) ((T_Path.mk false (⟨#[97]⟩ : ByteArray) (⟨#[98]⟩ : ByteArray))) [120])]))))::(12,.ptr 1 5)::(13,.agg [vb false,vs (⟨#[97]⟩ : ByteArray),vs (⟨#[98]⟩ : ByteArray)])::(14,.ptr 1 8)::(15,.fl .ro 1 (map (int .u8) [120]))::(16,.tup [vi v1.1,vi v1.2])::(8,.tup [vi v1.1,vi v1.2])::(17,vi v1.1)::(18,vi v1.2)::(2,vi v1.1)::(3,vi v1.2)::[]) [0,1] [0,1,13,14] [zq [1] 2 9,zq [1] 3 10,zq [2,3] 4 11,zq [1] 5 12,zq [5,1] 6 13,zq [1] 7 14,zq [7,1] 8 15,zq [4,6,8,0] 9 16,⟨[],[9],[10],[(.slot 8)]⟩,zq [10] 11 17,zq [10] 12 18,zq [11] 13 2,zq [12] 14 3] [(_,_),(_,_),(_,_),(_,_)] rfl ⟨zp rfl (op_loadA _ _ _ _ _ _ _ underlying64 rfl sz64 rfl rfl (zl rfl) rfl rfl),zp rfl (op_loadA _ _ _ _ _ _ _ underlying64 rfl sz64 rfl rfl (zl rfl) rfl rfl),zp rfl (op_buildn_fr _ _ 2 9 (.agg #[.int .i64 0, .int .i64 0, .bool false, .string ByteArray.empty, .string ByteArray.empty, .bool false, .string ByteArray.empty, .string ByteArray.empty, .slice none 0 0]) false [some (.tmp 9), some (.tmp 10)] _ underlying22 sz64 zr64 rfl rfl (by kernel_rfl) rfl rfl (.some (ics := T_Event.ienc ((T_Event.mk 1 1 ((T_Path.mk false (⟨#[]⟩ : ByteArray) (⟨#[]⟩ : ByteArray))) ((T_Path.mk false (⟨#[97]⟩ : ByteArray) (⟨#[98]⟩ : ByteArray))) [120]))) (jcs := (flatten (map T_Event.ienc ([(T_Event.mk 1 1 ((T_Path.mk false (⟨#[]⟩ : ByteArray) (⟨#[]⟩ : ByteArray))) ((T_Path.mk false (⟨#[97]⟩ : ByteArray) (⟨#[98]⟩ : ByteArray))) [120])] : List T_Event)))) _ rfl rfl (.cons (.v _) (.cons (.v _) (.cons (.v _) (.cons (.v _) (.cons (.v _) (.cons (.v _) (.cons (.v _) (.cons (.v _) (.cons (.ro _ _ rfl) (.nil)))))))))) rfl (.some (ics := T_Event.ienc ((T_Event.mk 1 1 ((T_Path.mk false (⟨#[]⟩ : ByteArray) (⟨#[]⟩ : ByteArray))) ((T_Path.mk false (⟨#[97]⟩ : ByteArray) (⟨#[98]⟩ : ByteArray))) [120]))) (jcs := (flatten (map T_Event.ienc ([] : List T_Event)))) _ rfl rfl (.cons (.v _) (.cons (.v _) (.cons (.v _) (.cons (.v _) (.cons (.v _) (.cons (.v _) (.cons (.v _) (.cons (.v _) (.cons (.ro _ _ rfl) (.nil)))))))))) rfl (.nil))) (by decide) (by decide) (by decide)),zp rfl (oF underlying64 rfl sz24),zp rfl (op_loadA _ _ _ _ _ _ _ underlying24 rfl sz24 rfl rfl (zl rfl) rfl rfl),zp rfl (oF underlying64 rfl sz25),zp rfl (oL underlying25 rfl),zp rfl (op_callG _ _ 44 10 _ _ rfl call10 rfl rfl (fun _ h => h) (ok_tally_Of mx ([(T_Event.mk 1 1 ((T_Path.mk false (⟨#[]⟩ : ByteArray) (⟨#[]⟩ : ByteArray))) ((T_Path.mk false (⟨#[97]⟩ : ByteArray) (⟨#[98]⟩ : ByteArray))) [120]), (T_Event.mk 1 1 ((T_Path.mk false (⟨#[]⟩ : ByteArray) (⟨#[]⟩ : ByteArray))) ((T_Path.mk false (⟨#[97]⟩ : ByteArray) (⟨#[98]⟩ : ByteArray))) [120])]) 1 ((T_Path.mk false (⟨#[97]⟩ : ByteArray) (⟨#[98]⟩ : ByteArray))) [120] _ hv1) rfl rfl),zp rfl (op_move_take _ _ _ _ rfl),zp rfl (oE rfl),zp rfl (oE rfl),z2 rfl,z2 rfl,zz⟩ ?_
  refine pt_then (ht_seq ?_)
  refine ht_joinS h (fun (s5 : Bool) => [(44, .glob (GL mx)), (0, .v (.bool s5))]) ?_ ?_
  ·rintro s5 h
   refine pt_then (ht_ret ?_)
   refine pt_pick [1] (by kernel_rfl) (es' := [(_,_)]) rfl ?_
   obtain rfl := zi h
   exact pt_ret hio rfl (.tmp _ _ .nil) rfl rfl
  ·intro u6 h hl7 hr8
   obtain ⟨v2, hv2, h⟩ := zn h
   refine cond_some h (fun hg3_5 h => ?_) (fun hg3_5 h => ?_)
   ·refine cond_some h (fun hg3_9 h => ?_) (fun hg3_9 h => ?_)
    ·refine cond_some h (fun hg3_13 h => ?_) (fun hg3_13 h => ?_)
     ·obtain ⟨v3, hv3, h⟩ := zn h
      refine cond_some h (fun hg3_18 h => ?_) (fun hg3_18 h => ?_)
      ·obtain ⟨v4, hv4, h⟩ := zn h
       refine zg hn (_::_::_::_::(19,.agg [vi 1,vi 1,vb false,vs z0,vs z0,vb false,vs (⟨#[97]⟩ : ByteArray),vs (⟨#[98]⟩ : ByteArray),.fl .ro 1 (map (int .u8) [120])])::(20,.agg [vi 1,vi 1,vb false,vs z0,vs z0,vb false,vs (⟨#[97]⟩ : ByteArray),vs (⟨#[98]⟩ : ByteArray),.fl .ro 1 (map (int .u8) [120])])::(21,.fr (.own 64) false 9 (flatten (map T_Event.ienc ([(T_Event.mk 1 1 ((T_Path.mk false z0 z0)) ((T_Path.mk false (⟨#[97]⟩ : ByteArray) (⟨#[98]⟩ : ByteArray))) [120]),(T_Event.mk 1 1 ((T_Path.mk false z0 z0)) ((T_Path.mk false (⟨#[97]⟩ : ByteArray) (⟨#[98]⟩ : ByteArray))) [120])]))))::(22,vi v2)::(23,vb (v2 == 1))::(24,vb true)::(25,vi v1.1)::(26,vb (v1.1 == 2))::(27,vb (v1.1 == 2))::(28,vb true)::(29,vi v1.2)::(30,vb (v1.2 == 0))::(31,vb (v1.2 == 0))::(32,vb true)::(33,.agg [.v (.slice none 0 0),vi 0,.v (.slice none 0 0),.v (.slice none 0 0),vi 0,.v (.slice none 0 0)])::(34,vi v3)::(35,vb (v3 == 40))::(36,vb (v3 == 40))::(37,vb true)::(38,.agg [vi 0,vb false,vs z0,vs z0,.v (.slice none 0 0),.v (.slice none 0 0),vb false,vs z0,vi 0,vi 1,vi 0])::(39,.fr (.own 75) false 11 (flatten (map T_Item.ienc ([(T_Item.mk 0 ((T_Mail.mk ((T_Path.mk false z0 z0)) [] [] false z0 0)) 1 0)]))))::(40,.agg [.fr (.own 75) false 11 (flatten (map T_Item.ienc ([(T_Item.mk 0 ((T_Mail.mk ((T_Path.mk false z0 z0)) [] [] false z0 0)) 1 0)]))),vi 0,.v (.slice none 0 0),.v (.slice none 0 0),vi 0,.v (.slice none 0 0)])::(41,vi v4)::(42,vb (v4 == 1))::(43,vb (v4 == 1))::(0,vb (v4 == 1))::[]) [0,1,2,3] [0,29] (zq [1] 4 19::zq [1] 5 20::zq [4,5] 6 21::zq [6] 7 22::zq [7] 8 23::zq [8] 9 24::zq [9,2] 10 25::zq [9,10] 11 26::zq [9,11] 12 27::zq [12] 13 28::zq [13,3] 14 29::zq [13,14] 15 30::zq [13,15] 16 31::zq [16] 17 32::zq [17] 18 33::zq [17,18] 19 34::zq [17,19] 20 35::zq [17,20] 21 36::zq [21] 22 37::zq [22] 23 38::zq [22,23] 24 39::⟨[22],[24],[25],[(.slot 40)]⟩::zq [22,25] 26 41::zq [22,26] 27 42::zq [22,27] 28 43::zq [28] 29 0::[]) [(_,_),(_,_)] rfl ⟨zp rfl (op_loadA _ _ _ _ _ _ _ underlying64 rfl sz64 rfl rfl (zl rfl) rfl rfl),zp rfl (op_loadA _ _ _ _ _ _ _ underlying64 rfl sz64 rfl rfl (zl rfl) rfl rfl),zp rfl (op_buildn_fr _ _ 2 9 (.agg #[.int .i64 0, .int .i64 0, .bool false, .string ByteArray.empty, .string ByteArray.empty, .bool false, .string ByteArray.empty, .string ByteArray.empty, .slice none 0 0]) false [some (.tmp 19), some (.tmp 20)] _ underlying22 sz64 zr64 rfl rfl (by kernel_rfl) rfl rfl (.some (ics := T_Event.ienc ((T_Event.mk 1 1 ((T_Path.mk false (⟨#[]⟩ : ByteArray) (⟨#[]⟩ : ByteArray))) ((T_Path.mk false (⟨#[97]⟩ : ByteArray) (⟨#[98]⟩ : ByteArray))) [120]))) (jcs := (flatten (map T_Event.ienc ([(T_Event.mk 1 1 ((T_Path.mk false (⟨#[]⟩ : ByteArray) (⟨#[]⟩ : ByteArray))) ((T_Path.mk false (⟨#[97]⟩ : ByteArray) (⟨#[98]⟩ : ByteArray))) [120])] : List T_Event)))) _ rfl rfl (.cons (.v _) (.cons (.v _) (.cons (.v _) (.cons (.v _) (.cons (.v _) (.cons (.v _) (.cons (.v _) (.cons (.v _) (.cons (.ro _ _ rfl) (.nil)))))))))) rfl (.some (ics := T_Event.ienc ((T_Event.mk 1 1 ((T_Path.mk false (⟨#[]⟩ : ByteArray) (⟨#[]⟩ : ByteArray))) ((T_Path.mk false (⟨#[97]⟩ : ByteArray) (⟨#[98]⟩ : ByteArray))) [120]))) (jcs := (flatten (map T_Event.ienc ([] : List T_Event)))) _ rfl rfl (.cons (.v _) (.cons (.v _) (.cons (.v _) (.cons (.v _) (.cons (.v _) (.cons (.v _) (.cons (.v _) (.cons (.v _) (.cons (.ro _ _ rfl) (.nil)))))))))) rfl (.nil))) (by decide) (by decide) (by decide)),zp rfl (op_call _ _ 11 _ _ rfl call11 rfl (ok_tally_Count ([(T_Event.mk 1 1 ((T_Path.mk false (⟨#[]⟩ : ByteArray) (⟨#[]⟩ : ByteArray))) ((T_Path.mk false (⟨#[97]⟩ : ByteArray) (⟨#[98]⟩ : ByteArray))) [120]), (T_Event.mk 1 1 ((T_Path.mk false (⟨#[]⟩ : ByteArray) (⟨#[]⟩ : ByteArray))) ((T_Path.mk false (⟨#[97]⟩ : ByteArray) (⟨#[98]⟩ : ByteArray))) [120])]) _ hv2) rfl rfl),z4 rfl rfl,z8 hg3_5 rfl,zr' rfl (oM rfl),zr' rfl (oB rfl rfl),z3 true rfl,z8 hg3_9 rfl,zr' rfl (oM rfl),zr' rfl (oB rfl rfl),z3 true rfl,z8 hg3_13 rfl,zr' rfl (op_build _ _ _ _ [1, 1, 1, 1, 1, 1] _ _ underlying43 zr43 (fs43 _ underlying43) Src.nil rfl rfl rfl),zr' rfl (op_call _ _ 16 _ _ rfl call16 rfl ((ok_tally_Bound (T_Spool.mk [] 0 [] [] 0 []) _ hv3).args (subs_cons (sub_agg (subs_cons (sub_nil_frs true 11) (subs_cons (sub_refl _) (subs_cons (sub_nil_shr 1) (subs_cons (sub_nil_shr 1) (subs_cons (sub_refl _) (subs_cons (sub_nil_shr 1) (subs_nil)))))))) (subs_nil))) rfl rfl),zr' rfl (oB rfl rfl),z3 true rfl,z8 hg3_18 rfl,zr' rfl (op_build _ _ _ _ [1, 8, 1, 1] _ _ underlying75 zr75 (fs75 _ underlying75) (.copy _ Src.nil) rfl rfl rfl),zr' rfl (op_build1_fr _ _ _ 11 (.agg #[.int .i64 0, .bool false, .string ByteArray.empty, .string ByteArray.empty, .slice none 0 0, .slice none 0 0, .bool false, .string ByteArray.empty, .int .i64 0, .int .i64 0, .int .i64 0]) false _ _ underlying41 sz75 zr75 rfl rfl (.cons (.v _) (.cons (.v _) (.cons (.v _) (.cons (.v _) (.cons (.nil 3) (.cons (.nil 1) (.cons (.v _) (.cons (.v _) (.cons (.v _) (.cons (.v _) (.cons (.v _) (.nil)))))))))))) rfl (by decide) (by decide)),zr' rfl (op_build _ _ _ _ [1, 1, 1, 1, 1, 1] _ _ underlying43 zr43 (fs43 _ underlying43) (.take _ _ Src.nil) rfl rfl rfl),zr' rfl (op_call _ _ 17 _ _ rfl call17 rfl ((ok_tally_Waits ((T_Spool.mk ([(T_Item.mk 0 ((T_Mail.mk ((T_Path.mk false (⟨#[]⟩ : ByteArray) (⟨#[]⟩ : ByteArray))) [] [] false (⟨#[]⟩ : ByteArray) 0)) 1 0)]) 0 [] [] 0 [])) _ hv4).args (subs_cons (sub_agg (subs_cons (sub_refl _) (subs_cons (sub_refl _) (subs_cons (sub_nil_shr 1) (subs_cons (sub_nil_shr 1) (subs_cons (sub_refl _) (subs_cons (sub_nil_shr 1) (subs_nil)))))))) (subs_nil))) rfl rfl),zr' rfl (oB rfl rfl),z3 true rfl,z2 rfl,zz⟩ ?_
       exact hl7 _ (zi h).symm
      ·refine zg hn (_::_::_::_::(19,.agg [vi 1,vi 1,vb false,vs z0,vs z0,vb false,vs (⟨#[97]⟩ : ByteArray),vs (⟨#[98]⟩ : ByteArray),.fl .ro 1 (map (int .u8) [120])])::(20,.agg [vi 1,vi 1,vb false,vs z0,vs z0,vb false,vs (⟨#[97]⟩ : ByteArray),vs (⟨#[98]⟩ : ByteArray),.fl .ro 1 (map (int .u8) [120])])::(21,.fr (.own 64) false 9 (flatten (map T_Event.ienc ([(T_Event.mk 1 1 ((T_Path.mk false z0 z0)) ((T_Path.mk false (⟨#[97]⟩ : ByteArray) (⟨#[98]⟩ : ByteArray))) [120]),(T_Event.mk 1 1 ((T_Path.mk false z0 z0)) ((T_Path.mk false (⟨#[97]⟩ : ByteArray) (⟨#[98]⟩ : ByteArray))) [120])]))))::(22,vi v2)::(23,vb (v2 == 1))::(24,vb true)::(25,vi v1.1)::(26,vb (v1.1 == 2))::(27,vb (v1.1 == 2))::(28,vb true)::(29,vi v1.2)::(30,vb (v1.2 == 0))::(31,vb (v1.2 == 0))::(32,vb true)::(33,.agg [.v (.slice none 0 0),vi 0,.v (.slice none 0 0),.v (.slice none 0 0),vi 0,.v (.slice none 0 0)])::(34,vi v3)::(35,vb (v3 == 40))::(36,vb (v3 == 40))::(37,vb false)::(38,.v undef)::(39,.v undef)::(40,.v undef)::(41,.v undef)::(42,.v undef)::(43,vb false)::(0,vb false)::[]) [0,1,2,3] [0,29] (zq [1] 4 19::zq [1] 5 20::zq [4,5] 6 21::zq [6] 7 22::zq [7] 8 23::zq [8] 9 24::zq [9,2] 10 25::zq [9,10] 11 26::zq [9,11] 12 27::zq [12] 13 28::zq [13,3] 14 29::zq [13,14] 15 30::zq [13,15] 16 31::zq [16] 17 32::zq [17] 18 33::zq [17,18] 19 34::zq [17,19] 20 35::zq [17,20] 21 36::zq [21] 22 37::zq [22] 23 38::zq [22] 24 39::zq [22] 25 40::zq [22] 26 41::zq [22] 27 42::zq [22] 28 43::zq [28] 29 0::[]) [(_,_),(_,_)] rfl ⟨zp rfl (op_loadA _ _ _ _ _ _ _ underlying64 rfl sz64 rfl rfl (zl rfl) rfl rfl),zp rfl (op_loadA _ _ _ _ _ _ _ underlying64 rfl sz64 rfl rfl (zl rfl) rfl rfl),zp rfl (op_buildn_fr _ _ 2 9 (.agg #[.int .i64 0, .int .i64 0, .bool false, .string ByteArray.empty, .string ByteArray.empty, .bool false, .string ByteArray.empty, .string ByteArray.empty, .slice none 0 0]) false [some (.tmp 19), some (.tmp 20)] _ underlying22 sz64 zr64 rfl rfl (by kernel_rfl) rfl rfl (.some (ics := T_Event.ienc ((T_Event.mk 1 1 ((T_Path.mk false (⟨#[]⟩ : ByteArray) (⟨#[]⟩ : ByteArray))) ((T_Path.mk false (⟨#[97]⟩ : ByteArray) (⟨#[98]⟩ : ByteArray))) [120]))) (jcs := (flatten (map T_Event.ienc ([(T_Event.mk 1 1 ((T_Path.mk false (⟨#[]⟩ : ByteArray) (⟨#[]⟩ : ByteArray))) ((T_Path.mk false (⟨#[97]⟩ : ByteArray) (⟨#[98]⟩ : ByteArray))) [120])] : List T_Event)))) _ rfl rfl (.cons (.v _) (.cons (.v _) (.cons (.v _) (.cons (.v _) (.cons (.v _) (.cons (.v _) (.cons (.v _) (.cons (.v _) (.cons (.ro _ _ rfl) (.nil)))))))))) rfl (.some (ics := T_Event.ienc ((T_Event.mk 1 1 ((T_Path.mk false (⟨#[]⟩ : ByteArray) (⟨#[]⟩ : ByteArray))) ((T_Path.mk false (⟨#[97]⟩ : ByteArray) (⟨#[98]⟩ : ByteArray))) [120]))) (jcs := (flatten (map T_Event.ienc ([] : List T_Event)))) _ rfl rfl (.cons (.v _) (.cons (.v _) (.cons (.v _) (.cons (.v _) (.cons (.v _) (.cons (.v _) (.cons (.v _) (.cons (.v _) (.cons (.ro _ _ rfl) (.nil)))))))))) rfl (.nil))) (by decide) (by decide) (by decide)),zp rfl (op_call _ _ 11 _ _ rfl call11 rfl (ok_tally_Count ([(T_Event.mk 1 1 ((T_Path.mk false (⟨#[]⟩ : ByteArray) (⟨#[]⟩ : ByteArray))) ((T_Path.mk false (⟨#[97]⟩ : ByteArray) (⟨#[98]⟩ : ByteArray))) [120]), (T_Event.mk 1 1 ((T_Path.mk false (⟨#[]⟩ : ByteArray) (⟨#[]⟩ : ByteArray))) ((T_Path.mk false (⟨#[97]⟩ : ByteArray) (⟨#[98]⟩ : ByteArray))) [120])]) _ hv2) rfl rfl),z4 rfl rfl,z8 hg3_5 rfl,zr' rfl (oM rfl),zr' rfl (oB rfl rfl),z3 true rfl,z8 hg3_9 rfl,zr' rfl (oM rfl),zr' rfl (oB rfl rfl),z3 true rfl,z8 hg3_13 rfl,zr' rfl (op_build _ _ _ _ [1, 1, 1, 1, 1, 1] _ _ underlying43 zr43 (fs43 _ underlying43) Src.nil rfl rfl rfl),zr' rfl (op_call _ _ 16 _ _ rfl call16 rfl ((ok_tally_Bound (T_Spool.mk [] 0 [] [] 0 []) _ hv3).args (subs_cons (sub_agg (subs_cons (sub_nil_frs true 11) (subs_cons (sub_refl _) (subs_cons (sub_nil_shr 1) (subs_cons (sub_nil_shr 1) (subs_cons (sub_refl _) (subs_cons (sub_nil_shr 1) (subs_nil)))))))) (subs_nil))) rfl rfl),zr' rfl (oB rfl rfl),z3 true rfl,z8 hg3_18 rfl,zt rfl,zt rfl,zt rfl,zt rfl,zt rfl,z3 false rfl,z2 rfl,zz⟩ ?_
       exact hl7 _ (zi h).symm
     ·refine zg hn (_::_::_::_::(19,.agg [vi 1,vi 1,vb false,vs z0,vs z0,vb false,vs (⟨#[97]⟩ : ByteArray),vs (⟨#[98]⟩ : ByteArray),.fl .ro 1 (map (int .u8) [120])])::(20,.agg [vi 1,vi 1,vb false,vs z0,vs z0,vb false,vs (⟨#[97]⟩ : ByteArray),vs (⟨#[98]⟩ : ByteArray),.fl .ro 1 (map (int .u8) [120])])::(21,.fr (.own 64) false 9 (flatten (map T_Event.ienc ([(T_Event.mk 1 1 ((T_Path.mk false z0 z0)) ((T_Path.mk false (⟨#[97]⟩ : ByteArray) (⟨#[98]⟩ : ByteArray))) [120]),(T_Event.mk 1 1 ((T_Path.mk false z0 z0)) ((T_Path.mk false (⟨#[97]⟩ : ByteArray) (⟨#[98]⟩ : ByteArray))) [120])]))))::(22,vi v2)::(23,vb (v2 == 1))::(24,vb true)::(25,vi v1.1)::(26,vb (v1.1 == 2))::(27,vb (v1.1 == 2))::(28,vb true)::(29,vi v1.2)::(30,vb (v1.2 == 0))::(31,vb (v1.2 == 0))::(32,vb false)::(33,.v undef)::(34,.v undef)::(35,.v undef)::(36,vb false)::(37,vb false)::(38,.v undef)::(39,.v undef)::(40,.v undef)::(41,.v undef)::(42,.v undef)::(43,vb false)::(0,vb false)::[]) [0,1,2,3] [0,29] (zq [1] 4 19::zq [1] 5 20::zq [4,5] 6 21::zq [6] 7 22::zq [7] 8 23::zq [8] 9 24::zq [9,2] 10 25::zq [9,10] 11 26::zq [9,11] 12 27::zq [12] 13 28::zq [13,3] 14 29::zq [13,14] 15 30::zq [13,15] 16 31::zq [16] 17 32::zq [17] 18 33::zq [17] 19 34::zq [17] 20 35::zq [17] 21 36::zq [21] 22 37::zq [22] 23 38::zq [22] 24 39::zq [22] 25 40::zq [22] 26 41::zq [22] 27 42::zq [22] 28 43::zq [28] 29 0::[]) [(_,_),(_,_)] rfl ⟨zp rfl (op_loadA _ _ _ _ _ _ _ underlying64 rfl sz64 rfl rfl (zl rfl) rfl rfl),zp rfl (op_loadA _ _ _ _ _ _ _ underlying64 rfl sz64 rfl rfl (zl rfl) rfl rfl),zp rfl (op_buildn_fr _ _ 2 9 (.agg #[.int .i64 0, .int .i64 0, .bool false, .string ByteArray.empty, .string ByteArray.empty, .bool false, .string ByteArray.empty, .string ByteArray.empty, .slice none 0 0]) false [some (.tmp 19), some (.tmp 20)] _ underlying22 sz64 zr64 rfl rfl (by kernel_rfl) rfl rfl (.some (ics := T_Event.ienc ((T_Event.mk 1 1 ((T_Path.mk false (⟨#[]⟩ : ByteArray) (⟨#[]⟩ : ByteArray))) ((T_Path.mk false (⟨#[97]⟩ : ByteArray) (⟨#[98]⟩ : ByteArray))) [120]))) (jcs := (flatten (map T_Event.ienc ([(T_Event.mk 1 1 ((T_Path.mk false (⟨#[]⟩ : ByteArray) (⟨#[]⟩ : ByteArray))) ((T_Path.mk false (⟨#[97]⟩ : ByteArray) (⟨#[98]⟩ : ByteArray))) [120])] : List T_Event)))) _ rfl rfl (.cons (.v _) (.cons (.v _) (.cons (.v _) (.cons (.v _) (.cons (.v _) (.cons (.v _) (.cons (.v _) (.cons (.v _) (.cons (.ro _ _ rfl) (.nil)))))))))) rfl (.some (ics := T_Event.ienc ((T_Event.mk 1 1 ((T_Path.mk false (⟨#[]⟩ : ByteArray) (⟨#[]⟩ : ByteArray))) ((T_Path.mk false (⟨#[97]⟩ : ByteArray) (⟨#[98]⟩ : ByteArray))) [120]))) (jcs := (flatten (map T_Event.ienc ([] : List T_Event)))) _ rfl rfl (.cons (.v _) (.cons (.v _) (.cons (.v _) (.cons (.v _) (.cons (.v _) (.cons (.v _) (.cons (.v _) (.cons (.v _) (.cons (.ro _ _ rfl) (.nil)))))))))) rfl (.nil))) (by decide) (by decide) (by decide)),zp rfl (op_call _ _ 11 _ _ rfl call11 rfl (ok_tally_Count ([(T_Event.mk 1 1 ((T_Path.mk false (⟨#[]⟩ : ByteArray) (⟨#[]⟩ : ByteArray))) ((T_Path.mk false (⟨#[97]⟩ : ByteArray) (⟨#[98]⟩ : ByteArray))) [120]), (T_Event.mk 1 1 ((T_Path.mk false (⟨#[]⟩ : ByteArray) (⟨#[]⟩ : ByteArray))) ((T_Path.mk false (⟨#[97]⟩ : ByteArray) (⟨#[98]⟩ : ByteArray))) [120])]) _ hv2) rfl rfl),z4 rfl rfl,z8 hg3_5 rfl,zr' rfl (oM rfl),zr' rfl (oB rfl rfl),z3 true rfl,z8 hg3_9 rfl,zr' rfl (oM rfl),zr' rfl (oB rfl rfl),z3 true rfl,z8 hg3_13 rfl,zt rfl,zt rfl,zt rfl,z3 false rfl,z1 rfl,zt rfl,zt rfl,zt rfl,zt rfl,zt rfl,z3 false rfl,z2 rfl,zz⟩ ?_
      exact hl7 _ (zi h).symm
    ·refine zg hn (_::_::_::_::(19,.agg [vi 1,vi 1,vb false,vs z0,vs z0,vb false,vs (⟨#[97]⟩ : ByteArray),vs (⟨#[98]⟩ : ByteArray),.fl .ro 1 (map (int .u8) [120])])::(20,.agg [vi 1,vi 1,vb false,vs z0,vs z0,vb false,vs (⟨#[97]⟩ : ByteArray),vs (⟨#[98]⟩ : ByteArray),.fl .ro 1 (map (int .u8) [120])])::(21,.fr (.own 64) false 9 (flatten (map T_Event.ienc ([(T_Event.mk 1 1 ((T_Path.mk false z0 z0)) ((T_Path.mk false (⟨#[97]⟩ : ByteArray) (⟨#[98]⟩ : ByteArray))) [120]),(T_Event.mk 1 1 ((T_Path.mk false z0 z0)) ((T_Path.mk false (⟨#[97]⟩ : ByteArray) (⟨#[98]⟩ : ByteArray))) [120])]))))::(22,vi v2)::(23,vb (v2 == 1))::(24,vb true)::(25,vi v1.1)::(26,vb (v1.1 == 2))::(27,vb (v1.1 == 2))::(28,vb false)::(29,.v undef)::(30,.v undef)::(31,vb false)::(32,vb false)::(33,.v undef)::(34,.v undef)::(35,.v undef)::(36,vb false)::(37,vb false)::(38,.v undef)::(39,.v undef)::(40,.v undef)::(41,.v undef)::(42,.v undef)::(43,vb false)::(0,vb false)::[]) [0,1,2,3] [0,29] (zq [1] 4 19::zq [1] 5 20::zq [4,5] 6 21::zq [6] 7 22::zq [7] 8 23::zq [8] 9 24::zq [9,2] 10 25::zq [9,10] 11 26::zq [9,11] 12 27::zq [12] 13 28::zq [13] 14 29::zq [13] 15 30::zq [13] 16 31::zq [16] 17 32::zq [17] 18 33::zq [17] 19 34::zq [17] 20 35::zq [17] 21 36::zq [21] 22 37::zq [22] 23 38::zq [22] 24 39::zq [22] 25 40::zq [22] 26 41::zq [22] 27 42::zq [22] 28 43::zq [28] 29 0::[]) [(_,_),(_,_)] rfl ⟨zp rfl (op_loadA _ _ _ _ _ _ _ underlying64 rfl sz64 rfl rfl (zl rfl) rfl rfl),zp rfl (op_loadA _ _ _ _ _ _ _ underlying64 rfl sz64 rfl rfl (zl rfl) rfl rfl),zp rfl (op_buildn_fr _ _ 2 9 (.agg #[.int .i64 0, .int .i64 0, .bool false, .string ByteArray.empty, .string ByteArray.empty, .bool false, .string ByteArray.empty, .string ByteArray.empty, .slice none 0 0]) false [some (.tmp 19), some (.tmp 20)] _ underlying22 sz64 zr64 rfl rfl (by kernel_rfl) rfl rfl (.some (ics := T_Event.ienc ((T_Event.mk 1 1 ((T_Path.mk false (⟨#[]⟩ : ByteArray) (⟨#[]⟩ : ByteArray))) ((T_Path.mk false (⟨#[97]⟩ : ByteArray) (⟨#[98]⟩ : ByteArray))) [120]))) (jcs := (flatten (map T_Event.ienc ([(T_Event.mk 1 1 ((T_Path.mk false (⟨#[]⟩ : ByteArray) (⟨#[]⟩ : ByteArray))) ((T_Path.mk false (⟨#[97]⟩ : ByteArray) (⟨#[98]⟩ : ByteArray))) [120])] : List T_Event)))) _ rfl rfl (.cons (.v _) (.cons (.v _) (.cons (.v _) (.cons (.v _) (.cons (.v _) (.cons (.v _) (.cons (.v _) (.cons (.v _) (.cons (.ro _ _ rfl) (.nil)))))))))) rfl (.some (ics := T_Event.ienc ((T_Event.mk 1 1 ((T_Path.mk false (⟨#[]⟩ : ByteArray) (⟨#[]⟩ : ByteArray))) ((T_Path.mk false (⟨#[97]⟩ : ByteArray) (⟨#[98]⟩ : ByteArray))) [120]))) (jcs := (flatten (map T_Event.ienc ([] : List T_Event)))) _ rfl rfl (.cons (.v _) (.cons (.v _) (.cons (.v _) (.cons (.v _) (.cons (.v _) (.cons (.v _) (.cons (.v _) (.cons (.v _) (.cons (.ro _ _ rfl) (.nil)))))))))) rfl (.nil))) (by decide) (by decide) (by decide)),zp rfl (op_call _ _ 11 _ _ rfl call11 rfl (ok_tally_Count ([(T_Event.mk 1 1 ((T_Path.mk false (⟨#[]⟩ : ByteArray) (⟨#[]⟩ : ByteArray))) ((T_Path.mk false (⟨#[97]⟩ : ByteArray) (⟨#[98]⟩ : ByteArray))) [120]), (T_Event.mk 1 1 ((T_Path.mk false (⟨#[]⟩ : ByteArray) (⟨#[]⟩ : ByteArray))) ((T_Path.mk false (⟨#[97]⟩ : ByteArray) (⟨#[98]⟩ : ByteArray))) [120])]) _ hv2) rfl rfl),z4 rfl rfl,z8 hg3_5 rfl,zr' rfl (oM rfl),zr' rfl (oB rfl rfl),z3 true rfl,z8 hg3_9 rfl,zt rfl,zt rfl,z3 false rfl,z1 rfl,zt rfl,zt rfl,zt rfl,z3 false rfl,z1 rfl,zt rfl,zt rfl,zt rfl,zt rfl,zt rfl,z3 false rfl,z2 rfl,zz⟩ ?_
     exact hl7 _ (zi h).symm
   ·refine zg hn (_::_::_::_::(19,.agg [vi 1,vi 1,vb false,vs z0,vs z0,vb false,vs (⟨#[97]⟩ : ByteArray),vs (⟨#[98]⟩ : ByteArray),.fl .ro 1 (map (int .u8) [120])])::(20,.agg [vi 1,vi 1,vb false,vs z0,vs z0,vb false,vs (⟨#[97]⟩ : ByteArray),vs (⟨#[98]⟩ : ByteArray),.fl .ro 1 (map (int .u8) [120])])::(21,.fr (.own 64) false 9 (flatten (map T_Event.ienc ([(T_Event.mk 1 1 ((T_Path.mk false z0 z0)) ((T_Path.mk false (⟨#[97]⟩ : ByteArray) (⟨#[98]⟩ : ByteArray))) [120]),(T_Event.mk 1 1 ((T_Path.mk false z0 z0)) ((T_Path.mk false (⟨#[97]⟩ : ByteArray) (⟨#[98]⟩ : ByteArray))) [120])]))))::(22,vi v2)::(23,vb (v2 == 1))::(24,vb false)::(25,.v undef)::(26,.v undef)::(27,vb false)::(28,vb false)::(29,.v undef)::(30,.v undef)::(31,vb false)::(32,vb false)::(33,.v undef)::(34,.v undef)::(35,.v undef)::(36,vb false)::(37,vb false)::(38,.v undef)::(39,.v undef)::(40,.v undef)::(41,.v undef)::(42,.v undef)::(43,vb false)::(0,vb false)::[]) [0,1,2,3] [0,29] (zq [1] 4 19::zq [1] 5 20::zq [4,5] 6 21::zq [6] 7 22::zq [7] 8 23::zq [8] 9 24::zq [9] 10 25::zq [9] 11 26::zq [9] 12 27::zq [12] 13 28::zq [13] 14 29::zq [13] 15 30::zq [13] 16 31::zq [16] 17 32::zq [17] 18 33::zq [17] 19 34::zq [17] 20 35::zq [17] 21 36::zq [21] 22 37::zq [22] 23 38::zq [22] 24 39::zq [22] 25 40::zq [22] 26 41::zq [22] 27 42::zq [22] 28 43::zq [28] 29 0::[]) [(_,_),(_,_)] rfl ⟨zp rfl (op_loadA _ _ _ _ _ _ _ underlying64 rfl sz64 rfl rfl (zl rfl) rfl rfl),zp rfl (op_loadA _ _ _ _ _ _ _ underlying64 rfl sz64 rfl rfl (zl rfl) rfl rfl),zp rfl (op_buildn_fr _ _ 2 9 (.agg #[.int .i64 0, .int .i64 0, .bool false, .string ByteArray.empty, .string ByteArray.empty, .bool false, .string ByteArray.empty, .string ByteArray.empty, .slice none 0 0]) false [some (.tmp 19), some (.tmp 20)] _ underlying22 sz64 zr64 rfl rfl (by kernel_rfl) rfl rfl (.some (ics := T_Event.ienc ((T_Event.mk 1 1 ((T_Path.mk false (⟨#[]⟩ : ByteArray) (⟨#[]⟩ : ByteArray))) ((T_Path.mk false (⟨#[97]⟩ : ByteArray) (⟨#[98]⟩ : ByteArray))) [120]))) (jcs := (flatten (map T_Event.ienc ([(T_Event.mk 1 1 ((T_Path.mk false (⟨#[]⟩ : ByteArray) (⟨#[]⟩ : ByteArray))) ((T_Path.mk false (⟨#[97]⟩ : ByteArray) (⟨#[98]⟩ : ByteArray))) [120])] : List T_Event)))) _ rfl rfl (.cons (.v _) (.cons (.v _) (.cons (.v _) (.cons (.v _) (.cons (.v _) (.cons (.v _) (.cons (.v _) (.cons (.v _) (.cons (.ro _ _ rfl) (.nil)))))))))) rfl (.some (ics := T_Event.ienc ((T_Event.mk 1 1 ((T_Path.mk false (⟨#[]⟩ : ByteArray) (⟨#[]⟩ : ByteArray))) ((T_Path.mk false (⟨#[97]⟩ : ByteArray) (⟨#[98]⟩ : ByteArray))) [120]))) (jcs := (flatten (map T_Event.ienc ([] : List T_Event)))) _ rfl rfl (.cons (.v _) (.cons (.v _) (.cons (.v _) (.cons (.v _) (.cons (.v _) (.cons (.v _) (.cons (.v _) (.cons (.v _) (.cons (.ro _ _ rfl) (.nil)))))))))) rfl (.nil))) (by decide) (by decide) (by decide)),zp rfl (op_call _ _ 11 _ _ rfl call11 rfl (ok_tally_Count ([(T_Event.mk 1 1 ((T_Path.mk false (⟨#[]⟩ : ByteArray) (⟨#[]⟩ : ByteArray))) ((T_Path.mk false (⟨#[97]⟩ : ByteArray) (⟨#[98]⟩ : ByteArray))) [120]), (T_Event.mk 1 1 ((T_Path.mk false (⟨#[]⟩ : ByteArray) (⟨#[]⟩ : ByteArray))) ((T_Path.mk false (⟨#[97]⟩ : ByteArray) (⟨#[98]⟩ : ByteArray))) [120])]) _ hv2) rfl rfl),z4 rfl rfl,z8 hg3_5 rfl,zt rfl,zt rfl,z3 false rfl,z1 rfl,zt rfl,zt rfl,z3 false rfl,z1 rfl,zt rfl,zt rfl,zt rfl,z3 false rfl,z1 rfl,zt rfl,zt rfl,zt rfl,zt rfl,zt rfl,z3 false rfl,z2 rfl,zz⟩ ?_
    exact hl7 _ (zi h).symm
theorem ok_wherryref11_in (n : Int) (lo : Int) (hi : Int) (r : Bool) (h : Sh.wherryref11_in n lo hi = some r) : FnOK Tryd.prog 50 [.v (.int .i64 n), .v (.int .i64 lo), .v (.int .i64 hi)] (.v (.bool r)) := by
  unfold Sh.wherryref11_in at h
  refine fn_ok func50 rfl (zl rfl) rfl rfl fun g0 hn hio => ?_
  refine zgg hn [_,_,_,(6,vb false)] [0,1,2] [0,1,2] [zq [] 3 6] [(_,_),(_,_),(_,_)] rfl ⟨z2 rfl,zz⟩ ?_
  refine ht_seq ?_
  refine ht_joinS h (fun (s1 : Bool) => [(6, .v (.bool s1))]) ?_ ?_
  ·rintro s1 h
   refine pt_then (ht_ret ?_)
   obtain rfl := zi h
   exact pt_ret hio rfl (.tmp _ _ .nil) rfl rfl
  ·intro u2 h hl3 hr4
   refine cond_some h (fun hg1_3 h => ?_) (fun hg1_3 h => ?_)
   ·refine zg hn [_,_,_,(7,vi n),(8,vi lo),(9,vb (decide (lo ≤ n))),(10,vb true),(11,vi n),(12,vi hi),(13,vb (decide (n ≤ hi))),(14,vb (decide (n ≤ hi))),(6,vb (decide (n ≤ hi)))] [0,1,2] [11] [zq [0] 3 7,zq [1] 4 8,zq [3,4] 5 9,zq [5] 6 10,zq [6,0] 7 11,zq [6,2] 8 12,zq [6,7,8] 9 13,zq [6,9] 10 14,zq [10] 11 6] [(_,_)] rfl ⟨z1 rfl,z1 rfl,z4 rfl rfl,z8 hg1_3 rfl,zr' rfl (oM rfl),zr' rfl (oM rfl),zr' rfl (oB rfl rfl),z3 true rfl,z2 rfl,zz⟩ ?_
    exact hl3 _ (zi h).symm
   ·refine zg hn [_,_,_,(7,vi n),(8,vi lo),(9,vb (decide (lo ≤ n))),(10,vb false),(11,.v undef),(12,.v undef),(13,.v undef),(14,vb false),(6,vb false)] [0,1,2] [11] [zq [0] 3 7,zq [1] 4 8,zq [3,4] 5 9,zq [5] 6 10,zq [6] 7 11,zq [6] 8 12,zq [6] 9 13,zq [6] 10 14,zq [10] 11 6] [(_,_)] rfl ⟨z1 rfl,z1 rfl,z4 rfl rfl,z8 hg1_3 rfl,zt rfl,zt rfl,zt rfl,z3 false rfl,z2 rfl,zz⟩ ?_
    exact hl3 _ (zi h).symm
theorem ok_wherryref11_letter (c : Int) (r : Bool) (h : Sh.wherryref11_letter c = some r) : FnOK Tryd.prog 51 [.v (.int .u8 c)] (.v (.bool r)) := by
  unfold Sh.wherryref11_letter at h
  refine fn_ok func51 rfl (zl rfl) rfl rfl fun g0 hn hio => ?_
  refine zgg hn [_,(2,vb false)] [0] [0] [zq [] 1 2] [(_,_)] rfl ⟨z2 rfl,zz⟩ ?_
  refine ht_seq ?_
  refine ht_joinS h (fun (s1 : Bool) => [(2, .v (.bool s1))]) ?_ ?_
  ·rintro s1 h
   refine pt_then (ht_ret ?_)
   obtain rfl := zi h
   exact pt_ret hio rfl (.tmp _ _ .nil) rfl rfl
  ·intro u2 h hl3 hr4
   refine cond_some h (fun hg1_2 h => ?_) (fun hg1_2 h => ?_)
   ·refine cond_some h (fun hg1_6 h => ?_) (fun hg1_6 h => ?_)
    ·refine zg hn (_::(3,.v (.int .u8 c))::(4,vb (decide (97 ≤ c)))::(5,vb true)::(6,.v (.int .u8 c))::(7,vb (decide (c ≤ 122)))::(8,vb (decide (c ≤ 122)))::(9,vb true)::(10,.v undef)::(11,.v undef)::(12,.v undef)::(13,.v undef)::(14,.v undef)::(15,.v undef)::(16,vb true)::(2,vb true)::[]) [0] [15] (zq [0] 1 3::zq [1] 2 4::zq [2] 3 5::zq [3,0] 4 6::zq [3,4] 5 7::zq [3,5] 6 8::zq [6] 7 9::zq [7] 8 10::zq [7] 9 11::zq [7] 10 12::zq [10] 11 13::zq [10] 12 14::zq [7] 13 15::zq [7] 14 16::zq [14] 15 2::[]) [(_,_)] rfl ⟨z1 rfl,z4 rfl rfl,z8 hg1_2 rfl,zr' rfl (oM rfl),zr' rfl (oB rfl rfl),z3 true rfl,z8 hg1_6 rfl,zf rfl,zf rfl,zf rfl,zu' rfl,zu' rfl,zf rfl,z3 true rfl,z2 rfl,zz⟩ ?_
     exact hl3 _ (zi h).symm
    ·refine cond_some h (fun hg1_9 h => ?_) (fun hg1_9 h => ?_)
     ·refine zg hn (_::(3,.v (.int .u8 c))::(4,vb (decide (97 ≤ c)))::(5,vb true)::(6,.v (.int .u8 c))::(7,vb (decide (c ≤ 122)))::(8,vb (decide (c ≤ 122)))::(9,vb false)::(10,.v (.int .u8 c))::(11,vb (decide (65 ≤ c)))::(12,vb true)::(13,.v (.int .u8 c))::(14,vb (decide (c ≤ 90)))::(15,vb (decide (c ≤ 90)))::(16,vb (decide (c ≤ 90)))::(2,vb (decide (c ≤ 90)))::[]) [0] [15] (zq [0] 1 3::zq [1] 2 4::zq [2] 3 5::zq [3,0] 4 6::zq [3,4] 5 7::zq [3,5] 6 8::zq [6] 7 9::zq [7,0] 8 10::zq [7,8] 9 11::zq [7,9] 10 12::zq [10,0] 11 13::zq [10,11] 12 14::zq [7,10,12] 13 15::zq [7,13] 14 16::zq [14] 15 2::[]) [(_,_)] rfl ⟨z1 rfl,z4 rfl rfl,z8 hg1_2 rfl,zr' rfl (oM rfl),zr' rfl (oB rfl rfl),z3 true rfl,z8 hg1_6 rfl,zr' rfl (oM rfl),zr' rfl (oB rfl rfl),zr' rfl (op_move _ _ _ _ (zb hg1_9) rfl),zr' rfl (oM rfl),zr' rfl (oB rfl rfl),zr' rfl (op_pick _ _ true _ rfl rfl),z3 false rfl,z2 rfl,zz⟩ ?_
      exact hl3 _ (zi h).symm
     ·refine zg hn (_::(3,.v (.int .u8 c))::(4,vb (decide (97 ≤ c)))::(5,vb true)::(6,.v (.int .u8 c))::(7,vb (decide (c ≤ 122)))::(8,vb (decide (c ≤ 122)))::(9,vb false)::(10,.v (.int .u8 c))::(11,vb (decide (65 ≤ c)))::(12,vb false)::(13,.v undef)::(14,.v undef)::(15,vb false)::(16,vb false)::(2,vb false)::[]) [0] [15] (zq [0] 1 3::zq [1] 2 4::zq [2] 3 5::zq [3,0] 4 6::zq [3,4] 5 7::zq [3,5] 6 8::zq [6] 7 9::zq [7,0] 8 10::zq [7,8] 9 11::zq [7,9] 10 12::zq [10] 11 13::zq [10] 12 14::zq [7,10] 13 15::zq [7,13] 14 16::zq [14] 15 2::[]) [(_,_)] rfl ⟨z1 rfl,z4 rfl rfl,z8 hg1_2 rfl,zr' rfl (oM rfl),zr' rfl (oB rfl rfl),z3 true rfl,z8 hg1_6 rfl,zr' rfl (oM rfl),zr' rfl (oB rfl rfl),zr' rfl (op_move _ _ _ _ (zb hg1_9) rfl),zt rfl,zt rfl,zr' rfl (op_pick _ _ false _ rfl rfl),z3 false rfl,z2 rfl,zz⟩ ?_
      exact hl3 _ (zi h).symm
   ·refine cond_some h (fun hg1_9 h => ?_) (fun hg1_9 h => ?_)
    ·refine zg hn (_::(3,.v (.int .u8 c))::(4,vb (decide (97 ≤ c)))::(5,vb false)::(6,.v undef)::(7,.v undef)::(8,vb false)::(9,vb false)::(10,.v (.int .u8 c))::(11,vb (decide (65 ≤ c)))::(12,vb true)::(13,.v (.int .u8 c))::(14,vb (decide (c ≤ 90)))::(15,vb (decide (c ≤ 90)))::(16,vb (decide (c ≤ 90)))::(2,vb (decide (c ≤ 90)))::[]) [0] [15] (zq [0] 1 3::zq [1] 2 4::zq [2] 3 5::zq [3] 4 6::zq [3] 5 7::zq [3] 6 8::zq [6] 7 9::zq [7,0] 8 10::zq [7,8] 9 11::zq [7,9] 10 12::zq [10,0] 11 13::zq [10,11] 12 14::zq [7,10,12] 13 15::zq [7,13] 14 16::zq [14] 15 2::[]) [(_,_)] rfl ⟨z1 rfl,z4 rfl rfl,z8 hg1_2 rfl,zt rfl,zt rfl,z3 false rfl,z1 rfl,zr' rfl (oM rfl),zr' rfl (oB rfl rfl),zr' rfl (op_move _ _ _ _ (zb hg1_9) rfl),zr' rfl (oM rfl),zr' rfl (oB rfl rfl),zr' rfl (op_pick _ _ true _ rfl rfl),z3 false rfl,z2 rfl,zz⟩ ?_
     exact hl3 _ (zi h).symm
    ·refine zg hn (_::(3,.v (.int .u8 c))::(4,vb (decide (97 ≤ c)))::(5,vb false)::(6,.v undef)::(7,.v undef)::(8,vb false)::(9,vb false)::(10,.v (.int .u8 c))::(11,vb (decide (65 ≤ c)))::(12,vb false)::(13,.v undef)::(14,.v undef)::(15,vb false)::(16,vb false)::(2,vb false)::[]) [0] [15] (zq [0] 1 3::zq [1] 2 4::zq [2] 3 5::zq [3] 4 6::zq [3] 5 7::zq [3] 6 8::zq [6] 7 9::zq [7,0] 8 10::zq [7,8] 9 11::zq [7,9] 10 12::zq [10] 11 13::zq [10] 12 14::zq [7,10] 13 15::zq [7,13] 14 16::zq [14] 15 2::[]) [(_,_)] rfl ⟨z1 rfl,z4 rfl rfl,z8 hg1_2 rfl,zt rfl,zt rfl,z3 false rfl,z1 rfl,zr' rfl (oM rfl),zr' rfl (oB rfl rfl),zr' rfl (op_move _ _ _ _ (zb hg1_9) rfl),zt rfl,zt rfl,zr' rfl (op_pick _ _ false _ rfl rfl),z3 false rfl,z2 rfl,zz⟩ ?_
     exact hl3 _ (zi h).symm
theorem ok_wherryref11_digit (c : Int) (r : Bool) (h : Sh.wherryref11_digit c = some r) : FnOK Tryd.prog 52 [.v (.int .u8 c)] (.v (.bool r)) := by
  unfold Sh.wherryref11_digit at h
  refine fn_ok func52 rfl (zl rfl) rfl rfl fun g0 hn hio => ?_
  refine zgg hn [_,(2,vb false)] [0] [0] [zq [] 1 2] [(_,_)] rfl ⟨z2 rfl,zz⟩ ?_
  refine ht_seq ?_
  refine ht_joinS h (fun (s1 : Bool) => [(2, .v (.bool s1))]) ?_ ?_
  ·rintro s1 h
   refine pt_then (ht_ret ?_)
   obtain rfl := zi h
   exact pt_ret hio rfl (.tmp _ _ .nil) rfl rfl
  ·intro u2 h hl3 hr4
   refine cond_some h (fun hg1_2 h => ?_) (fun hg1_2 h => ?_)
   ·refine zg hn [_,(3,.v (.int .u8 c)),(4,vb (decide (48 ≤ c))),(5,vb true),(6,.v (.int .u8 c)),(7,vb (decide (c ≤ 57))),(8,vb (decide (c ≤ 57))),(2,vb (decide (c ≤ 57)))] [0] [7] [zq [0] 1 3,zq [1] 2 4,zq [2] 3 5,zq [3,0] 4 6,zq [3,4] 5 7,zq [3,5] 6 8,zq [6] 7 2] [(_,_)] rfl ⟨z1 rfl,z4 rfl rfl,z8 hg1_2 rfl,zr' rfl (oM rfl),zr' rfl (oB rfl rfl),z3 true rfl,z2 rfl,zz⟩ ?_
    exact hl3 _ (zi h).symm
   ·refine zg hn [_,(3,.v (.int .u8 c)),(4,vb (decide (48 ≤ c))),(5,vb false),(6,.v undef),(7,.v undef),(8,vb false),(2,vb false)] [0] [7] [zq [0] 1 3,zq [1] 2 4,zq [2] 3 5,zq [3] 4 6,zq [3] 5 7,zq [3] 6 8,zq [6] 7 2] [(_,_)] rfl ⟨z1 rfl,z4 rfl rfl,z8 hg1_2 rfl,zt rfl,zt rfl,z3 false rfl,z2 rfl,zz⟩ ?_
    exact hl3 _ (zi h).symm
theorem ok_wherryref11_Domain (s : ByteArray) (r : Bool) (h : Sh.wherryref11_Domain s = some r) : FnOK Tryd.prog 36 [.v (.string s)] (.v (.bool r)) := by
  unfold Sh.wherryref11_Domain at h
  refine fn_ok func36 rfl (zl rfl) rfl rfl fun g0 hn hio => ?_
  refine zgg hn [_,(2,vb false)] [0] [0] [zq [] 1 2] [(_,_)] rfl ⟨z2 rfl,zz⟩ ?_
  refine ht_seq ?_
  refine ht_seq ?_
  obtain ⟨v1, hv1, h⟩ := zn h
  refine zg hn [_,(5,vs s),(6,vi (s.size : Int)),(7,vb v1),(8,vb (!v1))] [0] [0,4] [zq [0] 1 5,zq [1] 2 6,zq [2] 3 7,zq [3] 4 8] [(_,_),(_,_)] rfl ⟨z1 rfl,zp rfl (oN underlying9 rfl),zp rfl (op_call _ _ 50 _ _ rfl call50 rfl (ok_wherryref11_in (s.size : Int) 1 255 _ hv1) rfl rfl),zp rfl (op_un _ _ _ _ rfl rfl),zz⟩ ?_
  refine pt_then ?_
  refine ht_cond _ rfl (fun hb2 => ?_) (fun hb2 => ?_)
  ·have h := cond_t hb2 h
   refine zgg hn [_,_,(2,vb false)] [0,1] [2] [zq [] 2 2] [(_,_)] rfl ⟨z2 rfl,zz⟩ ?_
   refine ht_ret ?_
   refine pt_r_then ?_
   obtain rfl := zi h
   exact pt_ret hio rfl (.tmp _ _ .nil) rfl rfl
  ·have h := cond_f hb2 h
   refine ht_skip ?_
   refine pt_then ?_
   refine zgg hn [_,_,(3,vi 0)] [0,1] [0,2] [zq [] 2 3] [(_,_),(_,_)] rfl ⟨z2 rfl,zz⟩ ?_
   refine ht_seq ?_
   refine zgg hn [_,_,(4,vi 0)] [0,1] [0,1,2] [zq [] 2 4] [(_,_),(_,_),(_,_)] rfl ⟨z2 rfl,zz⟩ ?_
   refine ht_loopS h (fun ((s88, s89) : Int × Int) => [(0, .v (.string s)), (3, .v (.int .i64 s88)), (4, .v (.int .i64 s89))]) (fun (() : Unit) => []) ?_ ?_
   ·rintro ⟨⟩ h
    refine pt_then ?_
    refine zgg hn [(2,vb true)] [] [0] [zq [] 0 2] [(_,_)] rfl ⟨z2 rfl,zz⟩ ?_
    refine ht_ret ?_
    obtain rfl := zi h
    exact pt_ret hio rfl (.tmp _ _ .nil) rfl rfl
   ·rintro u125 hl126 hr127 ⟨s88, s89⟩ rr130 h ho128
    refine ht_seq ?_
    refine zgg hn [_,_,_,(9,vi s89),(10,vs s),(11,vi (s.size : Int)),(12,vb (decide (s89 ≤ (s.size : Int))))] [0,1,2] [0,1,2,6] [zq [2] 3 9,zq [0] 4 10,zq [4] 5 11,zq [3,5] 6 12] [(_,_),(_,_),(_,_),(_,_)] rfl ⟨z1 rfl,z1 rfl,zp rfl (oN underlying9 rfl),z4 rfl rfl,zz⟩ ?_
    refine ht_cond _ rfl (fun hb131 => ?_) (fun hb131 => ?_)
    ·have h := cond_t hb131 h
     refine ht_skip ?_
     refine pt_then (ht_seq ?_)
     refine ht_joinS h (fun (s147 : Int) => [(0, .v (.string s)), (3, .v (.int .i64 s147)), (4, .v (.int .i64 s89))]) ?_ ?_
     ·rintro s147 h
      refine pt_then ?_
      obtain ⟨v50, hv50, h⟩ := zn h
      refine zg hn [_,_,_,(13,vi s89),(14,vi v50),(4,vi v50)] [0,1,2] [0,1,5] [zq [2] 3 13,zq [3] 4 14,⟨[4],[2],[5],[(.slot 4)]⟩] [(_,_),(_,_),(_,_)] rfl ⟨z1 rfl,zp rfl (oB rfl (ibind (f := int .i64) (Option.some.inj hv50))),zp rfl (LOp.drop [_] (op_assign _ _ _ _ rfl rfl)),zz⟩ ?_
      exact pt_next _ (zi h).symm rfl
     ·intro u148 h hl149 hr150
      refine ht_block ?_
      refine ht_seq ?_
      refine ht_seq ?_
      refine ht_joinS h (fun (s151 : Bool) => [(0, .v (.string s)), (3, .v (.int .i64 s88)), (4, .v (.int .i64 s89)), (24, .v (.bool s151))]) ?_ ?_
      ·rintro s151 h
       refine pt_then ?_
       refine ht_cond _ rfl (fun hb155 => ?_) (fun hb155 => ?_)
       ·have h := cond_t hb155 h
        refine ht_seq ?_
        refine ht_seq ?_
        refine ht_joinS h (fun (s156 : Bool) => [(0, .v (.string s)), (3, .v (.int .i64 s88)), (4, .v (.int .i64 s89)), (42, .v (.bool s156))]) ?_ ?_
        ·rintro s156 h
         refine pt_then ?_
         refine ht_cond _ rfl (fun hb160 => ?_) (fun hb160 => ?_)
         ·have h := cond_t hb160 h
          refine zgg hn [_,_,_,_,(2,vb false)] [0,1,2,3] [4] [zq [] 4 2] [(_,_)] rfl ⟨z2 rfl,zz⟩ ?_
          refine ht_ret ?_
          refine pt_r_then ?_
          refine pt_r_then ?_
          refine pt_r_in ?_
          refine pt_r_then ?_
          refine pt_r_then ?_
          refine pt_r_in ?_
          refine pt_r_then ?_
          have h := hr150 _ (zi h).symm
          have h := hr127 _ (ho128 _ (zi h).symm).symm
          obtain rfl := zi h
          exact pt_ret hio rfl (.tmp _ _ .nil) rfl rfl
         ·have h := cond_f hb160 h
          refine ht_skip ?_
          refine pt_then ?_
          refine ht_exit ?_
          refine pt_x_then ?_
          refine pt_x_in ?_
          refine pt_pick [0, 1, 2] (by kernel_rfl) (es' := [(_,_),(_,_),(_,_)]) rfl ?_
          exact hl149 _ (zi h).symm
        ·intro u157 h hl158 hr159
         obtain ⟨v10, hv10, h⟩ := zn h
         obtain ⟨v11, hv11, h⟩ := zn h
         refine cond_some h (fun hg8_5 h => ?_) (fun hg8_5 h => ?_)
         ·obtain ⟨v12, hv12, h⟩ := zn h
          obtain ⟨v13, hv13, h⟩ := zn h
          refine cond_some h (fun hg8_12 h => ?_) (fun hg8_12 h => ?_)
          ·obtain ⟨v14, hv14, h⟩ := zn h
           refine zg hn (_::_::_::_::(25,vs s)::(26,vi s89)::(27,.v (.int .u8 v10))::(28,vb v11)::(29,vb (!v11))::(30,vb true)::(31,vs s)::(32,vi s89)::(33,.v (.int .u8 v12))::(34,vb v13)::(35,vb (!v13))::(36,vb (!v13))::(37,vb true)::(38,vs s)::(39,vi s89)::(40,.v (.int .u8 v14))::(41,vb (v14 != 45))::(42,vb (v14 != 45))::[]) [0,1,2,3] [0,1,2,21] (zq [0] 4 25::zq [2] 5 26::zq [4,5] 6 27::zq [6] 7 28::zq [7] 8 29::zq [8] 9 30::zq [9,0] 10 31::zq [9,2] 11 32::zq [9,10,11] 12 33::zq [9,12] 13 34::zq [9,13] 14 35::zq [9,14] 15 36::zq [15] 16 37::zq [16,0] 17 38::zq [16,2] 18 39::zq [16,17,18] 19 40::zq [16,19] 20 41::zq [16,20] 21 42::[]) [(_,_),(_,_),(_,_),(_,_)] rfl ⟨z1 rfl,z1 rfl,zp rfl (op_chr _ _ _ s89 _ underlying9 rfl rfl hv10),zp rfl (op_call _ _ 51 _ _ rfl call51 rfl (ok_wherryref11_letter v10 _ hv11) rfl rfl),zp rfl (op_un _ _ _ _ rfl rfl),z8 hg8_5 rfl,zr' rfl (oM rfl),zr' rfl (oM rfl),zr' rfl (op_chr _ _ _ s89 _ underlying9 rfl rfl hv12),zr' rfl (op_call _ _ 52 _ _ rfl call52 rfl (ok_wherryref11_digit v12 _ hv13) rfl rfl),zr' rfl (op_un _ _ _ _ rfl rfl),z3 true rfl,z8 hg8_12 rfl,zr' rfl (oM rfl),zr' rfl (oM rfl),zr' rfl (op_chr _ _ _ s89 _ underlying9 rfl rfl hv14),zr' rfl (oB rfl rfl),z3 true rfl,zz⟩ ?_
           exact hl158 _ (zi h).symm
          ·refine zg hn (_::_::_::_::(25,vs s)::(26,vi s89)::(27,.v (.int .u8 v10))::(28,vb v11)::(29,vb (!v11))::(30,vb true)::(31,vs s)::(32,vi s89)::(33,.v (.int .u8 v12))::(34,vb v13)::(35,vb (!v13))::(36,vb (!v13))::(37,vb false)::(38,.v undef)::(39,.v undef)::(40,.v undef)::(41,.v undef)::(42,vb false)::[]) [0,1,2,3] [0,1,2,21] (zq [0] 4 25::zq [2] 5 26::zq [4,5] 6 27::zq [6] 7 28::zq [7] 8 29::zq [8] 9 30::zq [9,0] 10 31::zq [9,2] 11 32::zq [9,10,11] 12 33::zq [9,12] 13 34::zq [9,13] 14 35::zq [9,14] 15 36::zq [15] 16 37::zq [16] 17 38::zq [16] 18 39::zq [16] 19 40::zq [16] 20 41::zq [16] 21 42::[]) [(_,_),(_,_),(_,_),(_,_)] rfl ⟨z1 rfl,z1 rfl,zp rfl (op_chr _ _ _ s89 _ underlying9 rfl rfl hv10),zp rfl (op_call _ _ 51 _ _ rfl call51 rfl (ok_wherryref11_letter v10 _ hv11) rfl rfl),zp rfl (op_un _ _ _ _ rfl rfl),z8 hg8_5 rfl,zr' rfl (oM rfl),zr' rfl (oM rfl),zr' rfl (op_chr _ _ _ s89 _ underlying9 rfl rfl hv12),zr' rfl (op_call _ _ 52 _ _ rfl call52 rfl (ok_wherryref11_digit v12 _ hv13) rfl rfl),zr' rfl (op_un _ _ _ _ rfl rfl),z3 true rfl,z8 hg8_12 rfl,zt rfl,zt rfl,zt rfl,zt rfl,z3 false rfl,zz⟩ ?_
           exact hl158 _ (zi h).symm
         ·refine zg hn (_::_::_::_::(25,vs s)::(26,vi s89)::(27,.v (.int .u8 v10))::(28,vb v11)::(29,vb (!v11))::(30,vb false)::(31,.v undef)::(32,.v undef)::(33,.v undef)::(34,.v undef)::(35,.v undef)::(36,vb false)::(37,vb false)::(38,.v undef)::(39,.v undef)::(40,.v undef)::(41,.v undef)::(42,vb false)::[]) [0,1,2,3] [0,1,2,21] (zq [0] 4 25::zq [2] 5 26::zq [4,5] 6 27::zq [6] 7 28::zq [7] 8 29::zq [8] 9 30::zq [9] 10 31::zq [9] 11 32::zq [9] 12 33::zq [9] 13 34::zq [9] 14 35::zq [9] 15 36::zq [15] 16 37::zq [16] 17 38::zq [16] 18 39::zq [16] 19 40::zq [16] 20 41::zq [16] 21 42::[]) [(_,_),(_,_),(_,_),(_,_)] rfl ⟨z1 rfl,z1 rfl,zp rfl (op_chr _ _ _ s89 _ underlying9 rfl rfl hv10),zp rfl (op_call _ _ 51 _ _ rfl call51 rfl (ok_wherryref11_letter v10 _ hv11) rfl rfl),zp rfl (op_un _ _ _ _ rfl rfl),z8 hg8_5 rfl,zt rfl,zt rfl,zt rfl,zt rfl,zt rfl,z3 false rfl,z1 rfl,zt rfl,zt rfl,zt rfl,zt rfl,z3 false rfl,zz⟩ ?_
          exact hl158 _ (zi h).symm
       ·have h := cond_f hb155 h
        refine ht_skip ?_
        refine pt_then (ht_seq ?_)
        refine ht_seq ?_
        refine ht_joinS h (fun (s161 : Bool) => [(0, .v (.string s)), (4, .v (.int .i64 s89)), (60, .v (.bool s161))]) ?_ ?_
        ·rintro s161 h
         refine pt_then ?_
         refine ht_cond _ rfl (fun hb165 => ?_) (fun hb165 => ?_)
         ·have h := cond_t hb165 h
          refine zgg hn [_,_,_,(2,vb false)] [0,1,2] [3] [zq [] 3 2] [(_,_)] rfl ⟨z2 rfl,zz⟩ ?_
          refine ht_ret ?_
          refine pt_r_then ?_
          refine pt_r_in ?_
          refine pt_r_then ?_
          refine pt_r_then ?_
          refine pt_r_in ?_
          refine pt_r_then ?_
          have h := hr150 _ (zi h).symm
          have h := hr127 _ (ho128 _ (zi h).symm).symm
          obtain rfl := zi h
          exact pt_ret hio rfl (.tmp _ _ .nil) rfl rfl
         ·have h := cond_f hb165 h
          refine ht_skip ?_
          refine pt_then ?_
          obtain ⟨v30, hv30, h⟩ := zn h
          refine zg hn [_,_,_,(61,vi s89),(62,vi v30),(3,vi v30)] [0,1,2] [0,1,5] [zq [1] 3 61,zq [3] 4 62,zq [4] 5 3] [(_,_),(_,_),(_,_)] rfl ⟨z1 rfl,zp rfl (oB rfl (ibind (f := int .i64) (Option.some.inj hv30))),z2 rfl,zz⟩ ?_
          refine pt_inb ?_
          refine pt_pick [0, 2, 1] (by kernel_rfl) (es' := [(_,_),(_,_),(_,_)]) rfl ?_
          exact hl149 _ (zi h).symm
        ·intro u162 h hl163 hr164
         obtain ⟨v20, hv20, h⟩ := zn h
         obtain ⟨v21, hv21, h⟩ := zn h
         refine cond_some h (fun hg10_5 h => ?_) (fun hg10_5 h => ?_)
         ·refine zg hn (_::_::_::_::(43,vi s89)::(44,vi s88)::(45,vi v20)::(46,vb v21)::(47,vb (!v21))::(48,vb true)::(49,.v undef)::(50,.v undef)::(51,.v undef)::(52,.v undef)::(53,vb true)::(54,vb true)::(55,.v undef)::(56,.v undef)::(57,.v undef)::(58,.v undef)::(59,.v undef)::(60,vb true)::[]) [0,1,2,3] [0,2,21] (zq [2] 4 43::zq [1] 5 44::zq [4,5] 6 45::zq [6] 7 46::zq [7] 8 47::zq [8] 9 48::zq [9] 10 49::zq [9] 11 50::zq [9] 12 51::zq [9] 13 52::zq [9] 14 53::zq [14] 15 54::zq [15] 16 55::zq [15] 17 56::zq [15] 18 57::zq [15] 19 58::zq [15] 20 59::zq [15] 21 60::[]) [(_,_),(_,_),(_,_)] rfl ⟨z1 rfl,z1 rfl,zp rfl (oB rfl (ibind (f := int .i64) (Option.some.inj hv20))),zp rfl (op_call _ _ 50 _ _ rfl call50 rfl (ok_wherryref11_in v20 1 63 _ hv21) rfl rfl),zp rfl (op_un _ _ _ _ rfl rfl),z8 hg10_5 rfl,zf rfl,zf rfl,zf rfl,zf rfl,z3 true rfl,z1 rfl,zf rfl,zf rfl,zf rfl,zf rfl,zf rfl,z3 true rfl,zz⟩ ?_
          exact hl163 _ (zi h).symm
         ·obtain ⟨v22, hv22, h⟩ := zn h
          refine cond_some h (fun hg10_11 h => ?_) (fun hg10_11 h => ?_)
          ·refine zg hn (_::_::_::_::(43,vi s89)::(44,vi s88)::(45,vi v20)::(46,vb v21)::(47,vb (!v21))::(48,vb false)::(49,vs s)::(50,vi s88)::(51,.v (.int .u8 v22))::(52,vb (v22 == 45))::(53,vb (v22 == 45))::(54,vb true)::(55,.v undef)::(56,.v undef)::(57,.v undef)::(58,.v undef)::(59,.v undef)::(60,vb true)::[]) [0,1,2,3] [0,2,21] (zq [2] 4 43::zq [1] 5 44::zq [4,5] 6 45::zq [6] 7 46::zq [7] 8 47::zq [8] 9 48::zq [9,0] 10 49::zq [9,1] 11 50::zq [9,10,11] 12 51::zq [9,12] 13 52::zq [9,13] 14 53::zq [14] 15 54::zq [15] 16 55::zq [15] 17 56::zq [15] 18 57::zq [15] 19 58::zq [15] 20 59::zq [15] 21 60::[]) [(_,_),(_,_),(_,_)] rfl ⟨z1 rfl,z1 rfl,zp rfl (oB rfl (ibind (f := int .i64) (Option.some.inj hv20))),zp rfl (op_call _ _ 50 _ _ rfl call50 rfl (ok_wherryref11_in v20 1 63 _ hv21) rfl rfl),zp rfl (op_un _ _ _ _ rfl rfl),z8 hg10_5 rfl,zr' rfl (oM rfl),zr' rfl (oM rfl),zr' rfl (op_chr _ _ _ s88 _ underlying9 rfl rfl hv22),zr' rfl (oB rfl rfl),z3 false rfl,z8 hg10_11 rfl,zf rfl,zf rfl,zf rfl,zf rfl,zf rfl,z3 true rfl,zz⟩ ?_
           exact hl163 _ (zi h).symm
          ·obtain ⟨v23, hv23, h⟩ := zn h
           obtain ⟨v24, hv24, h⟩ := zn h
           refine zg hn (_::_::_::_::(43,vi s89)::(44,vi s88)::(45,vi v20)::(46,vb v21)::(47,vb (!v21))::(48,vb false)::(49,vs s)::(50,vi s88)::(51,.v (.int .u8 v22))::(52,vb (v22 == 45))::(53,vb (v22 == 45))::(54,vb false)::(55,vs s)::(56,vi s89)::(57,vi v23)::(58,.v (.int .u8 v24))::(59,vb (v24 == 45))::(60,vb (v24 == 45))::[]) [0,1,2,3] [0,2,21] (zq [2] 4 43::zq [1] 5 44::zq [4,5] 6 45::zq [6] 7 46::zq [7] 8 47::zq [8] 9 48::zq [9,0] 10 49::zq [9,1] 11 50::zq [9,10,11] 12 51::zq [9,12] 13 52::zq [9,13] 14 53::zq [14] 15 54::zq [15,0] 16 55::zq [15,2] 17 56::zq [15,17] 18 57::zq [15,16,18] 19 58::zq [15,19] 20 59::zq [15,20] 21 60::[]) [(_,_),(_,_),(_,_)] rfl ⟨z1 rfl,z1 rfl,zp rfl (oB rfl (ibind (f := int .i64) (Option.some.inj hv20))),zp rfl (op_call _ _ 50 _ _ rfl call50 rfl (ok_wherryref11_in v20 1 63 _ hv21) rfl rfl),zp rfl (op_un _ _ _ _ rfl rfl),z8 hg10_5 rfl,zr' rfl (oM rfl),zr' rfl (oM rfl),zr' rfl (op_chr _ _ _ s88 _ underlying9 rfl rfl hv22),zr' rfl (oB rfl rfl),z3 false rfl,z8 hg10_11 rfl,zr' rfl (oM rfl),zr' rfl (oM rfl),zr' rfl (oB rfl (ibind (f := int .i64) (Option.some.inj hv23))),zr' rfl (op_chr _ _ _ v23 _ underlying9 rfl rfl hv24),zr' rfl (oB rfl rfl),z3 false rfl,zz⟩ ?_
           exact hl163 _ (zi h).symm
      ·intro u152 h hl153 hr154
       refine cond_some h (fun hg7_4 h => ?_) (fun hg7_4 h => ?_)
       ·obtain ⟨v4, hv4, h⟩ := zn h
        refine zg hn [_,_,_,_,(15,vi s89),(16,vs s),(17,vi (s.size : Int)),(18,vb (decide (s89 < (s.size : Int)))),(19,vb true),(20,vs s),(21,vi s89),(22,.v (.int .u8 v4)),(23,vb (v4 != 46)),(24,vb (v4 != 46))] [0,1,2,3] [0,1,2,13] [zq [2] 4 15,zq [0] 5 16,zq [5] 6 17,zq [4,6] 7 18,zq [7] 8 19,zq [8,0] 9 20,zq [8,2] 10 21,zq [8,9,10] 11 22,zq [8,11] 12 23,zq [8,12] 13 24] [(_,_),(_,_),(_,_),(_,_)] rfl ⟨z1 rfl,z1 rfl,zp rfl (oN underlying9 rfl),z4 rfl rfl,z8 hg7_4 rfl,zr' rfl (oM rfl),zr' rfl (oM rfl),zr' rfl (op_chr _ _ _ s89 _ underlying9 rfl rfl hv4),zr' rfl (oB rfl rfl),z3 true rfl,zz⟩ ?_
        exact hl153 _ (zi h).symm
       ·refine zg hn [_,_,_,_,(15,vi s89),(16,vs s),(17,vi (s.size : Int)),(18,vb (decide (s89 < (s.size : Int)))),(19,vb false),(20,.v undef),(21,.v undef),(22,.v undef),(23,.v undef),(24,vb false)] [0,1,2,3] [0,1,2,13] [zq [2] 4 15,zq [0] 5 16,zq [5] 6 17,zq [4,6] 7 18,zq [7] 8 19,zq [8] 9 20,zq [8] 10 21,zq [8] 11 22,zq [8] 12 23,zq [8] 13 24] [(_,_),(_,_),(_,_),(_,_)] rfl ⟨z1 rfl,z1 rfl,zp rfl (oN underlying9 rfl),z4 rfl rfl,z8 hg7_4 rfl,zt rfl,zt rfl,zt rfl,zt rfl,z3 false rfl,zz⟩ ?_
        exact hl153 _ (zi h).symm
    ·have h := cond_f hb131 h
     refine ht_exit ?_
     refine pt_x_then ?_
     refine pt_x_then ?_
     refine pt_x_in ?_
     refine pt_pick [] (by kernel_rfl) (es' := []) rfl ?_
     exact hl126 _ (ho128 _ (zi h).symm).symm
theorem ok_wherryref11_sign (c : Int) (r : Bool) (h : Sh.wherryref11_sign c = some r) : FnOK Tryd.prog 63 [.v (.int .u8 c)] (.v (.bool r)) := by
  unfold Sh.wherryref11_sign at h
  refine fn_ok func63 rfl (zl rfl) rfl rfl fun g0 hn hio => ?_
  refine zgg hn [_,(2,vb false)] [0] [0] [zq [] 1 2] [(_,_)] rfl ⟨z2 rfl,zz⟩ ?_
  refine ht_seq ?_
  refine ht_seq ?_
  refine ht_joinS h (fun (s3 : Bool) => [(0, .v (.int .u8 c)), (10, .v (.bool s3))]) ?_ ?_
  ·rintro s3 h
   refine pt_then ?_
   refine ht_cond _ rfl (fun hb7 => ?_) (fun hb7 => ?_)
   ·have h := cond_t hb7 h
    refine zgg hn [_,_,(2,vb true)] [0,1] [2] [zq [] 2 2] [(_,_)] rfl ⟨z2 rfl,zz⟩ ?_
    refine ht_ret ?_
    refine pt_r_then ?_
    obtain rfl := zi h
    exact pt_ret hio rfl (.tmp _ _ .nil) rfl rfl
   ·have h := cond_f hb7 h
    refine ht_skip ?_
    refine pt_then ?_
    refine zgg hn [_,_,(3,vs (⟨#[33,35,36,37,38,39,42,43,45,47,61,63,94,95,123,124,125,126]⟩ : ByteArray))] [0,1] [0,2] [zq [] 2 3] [(_,_),(_,_)] rfl ⟨z2 rfl,zz⟩ ?_
    refine ht_seq ?_
    refine zgg hn [_,_,(4,vi 0)] [0,1] [0,1,2] [zq [] 2 4] [(_,_),(_,_),(_,_)] rfl ⟨z2 rfl,zz⟩ ?_
    refine ht_loopS h (fun (s15 : Int) => [(0, .v (.int .u8 c)), (3, .v (.string (⟨#[33, 35, 36, 37, 38, 39, 42, 43, 45, 47, 61, 63, 94, 95, 123, 124, 125, 126]⟩ : ByteArray))), (4, .v (.int .i64 s15))]) (fun (() : Unit) => [(0, .v (.int .u8 c))]) ?_ ?_
    ·rintro ⟨⟩ h
     refine pt_then ?_
     refine zgg hn [_,(22,.v (.int .u8 c)),(23,vb (c == 96)),(2,vb (c == 96))] [0] [3] [zq [0] 1 22,zq [1] 2 23,zq [2] 3 2] [(_,_)] rfl ⟨z1 rfl,z4 rfl rfl,z2 rfl,zz⟩ ?_
     refine ht_ret ?_
     obtain rfl := zi h
     exact pt_ret hio rfl (.tmp _ _ .nil) rfl rfl
    ·rintro u18 hl19 hr20 s15 rr23 h ho21
     refine ht_seq ?_
     refine zgg hn [_,_,_,(11,vi s15),(12,vs (⟨#[33,35,36,37,38,39,42,43,45,47,61,63,94,95,123,124,125,126]⟩ : ByteArray)),(13,vi ((⟨#[33,35,36,37,38,39,42,43,45,47,61,63,94,95,123,124,125,126]⟩ : ByteArray).size : Int)),(14,vb (decide (s15 < (((⟨#[33,35,36,37,38,39,42,43,45,47,61,63,94,95,123,124,125,126]⟩ : ByteArray).size : Int)))))] [0,1,2] [0,1,2,6] [zq [2] 3 11,zq [1] 4 12,zq [4] 5 13,zq [3,5] 6 14] [(_,_),(_,_),(_,_),(_,_)] rfl ⟨z1 rfl,z1 rfl,zp rfl (oN underlying9 rfl),z4 rfl rfl,zz⟩ ?_
     refine ht_cond _ rfl (fun hb24 => ?_) (fun hb24 => ?_)
     ·have h := cond_t hb24 h
      refine ht_skip ?_
      refine pt_then (ht_seq ?_)
      refine ht_block ?_
      refine ht_seq ?_
      obtain ⟨v9, hv9, h⟩ := zn h
      refine zg hn [_,_,_,_,(17,vs (⟨#[33,35,36,37,38,39,42,43,45,47,61,63,94,95,123,124,125,126]⟩ : ByteArray)),(18,vi s15),(19,.v (.int .u8 v9)),(20,.v (.int .u8 c)),(21,vb (v9 == c))] [0,1,2,3] [0,1,2,8] [zq [1] 4 17,zq [2] 5 18,zq [4,5] 6 19,zq [0] 7 20,zq [6,7] 8 21] [(_,_),(_,_),(_,_),(_,_)] rfl ⟨z1 rfl,z1 rfl,zp rfl (op_chr _ _ _ s15 _ underlying9 rfl rfl hv9),z1 rfl,z4 rfl rfl,zz⟩ ?_
      refine pt_then ?_
      refine ht_cond _ rfl (fun hb25 => ?_) (fun hb25 => ?_)
      ·have h := cond_t hb25 h
       refine zgg hn [_,_,_,_,(2,vb true)] [0,1,2,3] [4] [zq [] 4 2] [(_,_)] rfl ⟨z2 rfl,zz⟩ ?_
       refine ht_ret ?_
       refine pt_r_in ?_
       refine pt_r_then ?_
       refine pt_r_then ?_
       refine pt_r_in ?_
       refine pt_r_then ?_
       have h := hr20 _ (ho21 _ (zi h).symm).symm
       obtain rfl := zi h
       exact pt_ret hio rfl (.tmp _ _ .nil) rfl rfl
      ·have h := cond_f hb25 h
       refine ht_skip ?_
       refine pt_inb ?_
       refine pt_then ?_
       obtain ⟨v11, hv11, h⟩ := zn h
       refine zg hn [_,_,_,_,(15,vi s15),(16,vi v11),(4,vi v11)] [0,1,2,3] [0,1,6] [zq [2] 4 15,zq [4] 5 16,⟨[5],[2],[6],[(.slot 4)]⟩] [(_,_),(_,_),(_,_)] rfl ⟨z1 rfl,zp rfl (oB rfl (ibind (f := int .i64) (Option.some.inj hv11))),zp rfl (LOp.drop [_] (op_assign _ _ _ _ rfl rfl)),zz⟩ ?_
       exact pt_next _ (zi h).symm rfl
     ·have h := cond_f hb24 h
      refine ht_exit ?_
      refine pt_x_then ?_
      refine pt_x_then ?_
      refine pt_x_in ?_
      refine pt_pick [0] (by kernel_rfl) (es' := [(_,_)]) rfl ?_
      exact hl19 _ (ho21 _ (zi h).symm).symm
  ·intro u4 h hl5 hr6
   obtain ⟨v1, hv1, h⟩ := zn h
   refine cond_some h (fun hg1_2 h => ?_) (fun hg1_2 h => ?_)
   ·refine zg hn [_,(5,.v (.int .u8 c)),(6,vb v1),(7,vb true),(8,.v undef),(9,.v undef),(10,vb true)] [0] [0,6] [zq [0] 1 5,zq [1] 2 6,zq [2] 3 7,zq [3] 4 8,zq [3] 5 9,zq [3] 6 10] [(_,_),(_,_)] rfl ⟨z1 rfl,zp rfl (op_call _ _ 51 _ _ rfl call51 rfl (ok_wherryref11_letter c _ hv1) rfl rfl),z8 hg1_2 rfl,zf rfl,zf rfl,z3 true rfl,zz⟩ ?_
    exact hl5 _ (zi h).symm
   ·obtain ⟨v2, hv2, h⟩ := zn h
    refine zg hn [_,(5,.v (.int .u8 c)),(6,vb v1),(7,vb false),(8,.v (.int .u8 c)),(9,vb v2),(10,vb v2)] [0] [0,6] [zq [0] 1 5,zq [1] 2 6,zq [2] 3 7,zq [3,0] 4 8,zq [3,4] 5 9,zq [3,5] 6 10] [(_,_),(_,_)] rfl ⟨z1 rfl,zp rfl (op_call _ _ 51 _ _ rfl call51 rfl (ok_wherryref11_letter c _ hv1) rfl rfl),z8 hg1_2 rfl,zr' rfl (oM rfl),zr' rfl (op_call _ _ 52 _ _ rfl call52 rfl (ok_wherryref11_digit c _ hv2) rfl rfl),z3 false rfl,zz⟩ ?_
    exact hl5 _ (zi h).symm
theorem ok_wherryref11_Local (s : ByteArray) (r : Bool) (h : Sh.wherryref11_Local s = some r) : FnOK Tryd.prog 54 [.v (.string s)] (.v (.bool r)) := by
  unfold Sh.wherryref11_Local at h
  refine fn_ok func54 rfl (zl rfl) rfl rfl fun g0 hn hio => ?_
  refine zgg hn [_,(2,vb false)] [0] [0] [zq [] 1 2] [(_,_)] rfl ⟨z2 rfl,zz⟩ ?_
  refine ht_seq ?_
  refine ht_seq ?_
  refine ht_joinS h (fun (s5 : Bool) => [(0, .v (.string s)), (20, .v (.bool s5))]) ?_ ?_
  ·rintro s5 h
   refine pt_then ?_
   refine ht_cond _ rfl (fun hb9 => ?_) (fun hb9 => ?_)
   ·have h := cond_t hb9 h
    refine zgg hn [_,_,(2,vb false)] [0,1] [2] [zq [] 2 2] [(_,_)] rfl ⟨z2 rfl,zz⟩ ?_
    refine ht_ret ?_
    refine pt_r_then ?_
    obtain rfl := zi h
    exact pt_ret hio rfl (.tmp _ _ .nil) rfl rfl
   ·have h := cond_f hb9 h
    refine ht_skip ?_
    refine pt_then (ht_seq ?_)
    refine zgg hn [_,_,(3,vi 0)] [0,1] [0,2] [zq [] 2 3] [(_,_),(_,_)] rfl ⟨z2 rfl,zz⟩ ?_
    refine ht_loopS h (fun (s33 : Int) => [(0, .v (.string s)), (3, .v (.int .i64 s33))]) (fun (() : Unit) => []) ?_ ?_
    ·rintro ⟨⟩ h
     refine pt_then ?_
     refine zgg hn [(2,vb true)] [] [0] [zq [] 0 2] [(_,_)] rfl ⟨z2 rfl,zz⟩ ?_
     refine ht_ret ?_
     obtain rfl := zi h
     exact pt_ret hio rfl (.tmp _ _ .nil) rfl rfl
    ·rintro u40 hl41 hr42 s33 rr45 h ho43
     refine ht_seq ?_
     refine zgg hn [_,_,(21,vi s33),(22,vs s),(23,vi (s.size : Int)),(24,vb (decide (s33 < (s.size : Int))))] [0,1] [0,1,5] [zq [1] 2 21,zq [0] 3 22,zq [3] 4 23,zq [2,4] 5 24] [(_,_),(_,_),(_,_)] rfl ⟨z1 rfl,z1 rfl,zp rfl (oN underlying9 rfl),z4 rfl rfl,zz⟩ ?_
     refine ht_cond _ rfl (fun hb46 => ?_) (fun hb46 => ?_)
     ·have h := cond_t hb46 h
      refine ht_skip ?_
      refine pt_then (ht_seq ?_)
      refine ht_block ?_
      refine ht_seq ?_
      refine ht_joinS h (fun (s47 : Bool) => [(0, .v (.string s)), (3, .v (.int .i64 s33)), (50, .v (.bool s47))]) ?_ ?_
      ·rintro s47 h
       refine pt_then ?_
       refine ht_cond _ rfl (fun hb51 => ?_) (fun hb51 => ?_)
       ·have h := cond_t hb51 h
        refine zgg hn [_,_,_,(2,vb false)] [0,1,2] [3] [zq [] 3 2] [(_,_)] rfl ⟨z2 rfl,zz⟩ ?_
        refine ht_ret ?_
        refine pt_r_in ?_
        refine pt_r_then ?_
        refine pt_r_then ?_
        refine pt_r_in ?_
        refine pt_r_then ?_
        have h := hr42 _ (ho43 _ (zi h).symm).symm
        obtain rfl := zi h
        exact pt_ret hio rfl (.tmp _ _ .nil) rfl rfl
       ·have h := cond_f hb51 h
        refine ht_skip ?_
        refine pt_inb ?_
        refine pt_then ?_
        obtain ⟨v25, hv25, h⟩ := zn h
        refine zg hn [_,_,_,(25,vi s33),(26,vi v25),(3,vi v25)] [0,1,2] [0,5] [zq [1] 3 25,zq [3] 4 26,⟨[4],[1],[5],[(.slot 3)]⟩] [(_,_),(_,_)] rfl ⟨z1 rfl,zp rfl (oB rfl (ibind (f := int .i64) (Option.some.inj hv25))),zp rfl (LOp.drop [_] (op_assign _ _ _ _ rfl rfl)),zz⟩ ?_
        exact pt_next _ (zi h).symm rfl
      ·intro u48 h hl49 hr50
       obtain ⟨v11, hv11, h⟩ := zn h
       refine cond_some h (fun hg6_4 h => ?_) (fun hg6_4 h => ?_)
       ·obtain ⟨v12, hv12, h⟩ := zn h
        obtain ⟨v13, hv13, h⟩ := zn h
        refine cond_some h (fun hg6_11 h => ?_) (fun hg6_11 h => ?_)
        ·refine zg hn (_::_::_::(27,vs s)::(28,vi s33)::(29,.v (.int .u8 v11))::(30,vb (v11 == 46))::(31,vb true)::(32,vs s)::(33,vi s33)::(34,vi v12)::(35,.v (.int .u8 v13))::(36,vb (v13 == 46))::(37,vb (v13 == 46))::(38,vb true)::(39,.v undef)::(40,.v undef)::(41,.v undef)::(42,.v undef)::(43,.v undef)::(44,.v undef)::(45,.v undef)::(46,.v undef)::(47,.v undef)::(48,.v undef)::(49,.v undef)::(50,vb true)::[]) [0,1,2] [0,1,26] (zq [0] 3 27::zq [1] 4 28::zq [3,4] 5 29::zq [5] 6 30::zq [6] 7 31::zq [7,0] 8 32::zq [7,1] 9 33::zq [7,9] 10 34::zq [7,8,10] 11 35::zq [7,11] 12 36::zq [7,12] 13 37::zq [13] 14 38::zq [14] 15 39::zq [14] 16 40::zq [14] 17 41::zq [14] 18 42::zq [14] 19 43::zq [19] 20 44::zq [19] 21 45::zq [19] 22 46::zq [19] 23 47::zq [19] 24 48::zq [14] 25 49::zq [14] 26 50::[]) [(_,_),(_,_),(_,_)] rfl ⟨z1 rfl,z1 rfl,zp rfl (op_chr _ _ _ s33 _ underlying9 rfl rfl hv11),z4 rfl rfl,z8 hg6_4 rfl,zr' rfl (oM rfl),zr' rfl (oM rfl),zr' rfl (oB rfl (ibind (f := int .i64) (Option.some.inj hv12))),zr' rfl (op_chr _ _ _ v12 _ underlying9 rfl rfl hv13),zr' rfl (oB rfl rfl),z3 true rfl,z8 hg6_11 rfl,zf rfl,zf rfl,zf rfl,zf rfl,zf rfl,zu' rfl,zu' rfl,zu' rfl,zu' rfl,zu' rfl,zf rfl,z3 true rfl,zz⟩ ?_
         exact hl49 _ (zi h).symm
        ·obtain ⟨v14, hv14, h⟩ := zn h
         refine cond_some h (fun hg6_16 h => ?_) (fun hg6_16 h => ?_)
         ·obtain ⟨v15, hv15, h⟩ := zn h
          obtain ⟨v16, hv16, h⟩ := zn h
          refine zg hn (_::_::_::(27,vs s)::(28,vi s33)::(29,.v (.int .u8 v11))::(30,vb (v11 == 46))::(31,vb true)::(32,vs s)::(33,vi s33)::(34,vi v12)::(35,.v (.int .u8 v13))::(36,vb (v13 == 46))::(37,vb (v13 == 46))::(38,vb false)::(39,vs s)::(40,vi s33)::(41,.v (.int .u8 v14))::(42,vb (v14 != 46))::(43,vb true)::(44,vs s)::(45,vi s33)::(46,.v (.int .u8 v15))::(47,vb v16)::(48,vb (!v16))::(49,vb (!v16))::(50,vb (!v16))::[]) [0,1,2] [0,1,26] (zq [0] 3 27::zq [1] 4 28::zq [3,4] 5 29::zq [5] 6 30::zq [6] 7 31::zq [7,0] 8 32::zq [7,1] 9 33::zq [7,9] 10 34::zq [7,8,10] 11 35::zq [7,11] 12 36::zq [7,12] 13 37::zq [13] 14 38::zq [14,0] 15 39::zq [14,1] 16 40::zq [14,15,16] 17 41::zq [14,17] 18 42::zq [14,18] 19 43::zq [19,0] 20 44::zq [19,1] 21 45::zq [19,20,21] 22 46::zq [19,22] 23 47::zq [19,23] 24 48::zq [14,19,24] 25 49::zq [14,25] 26 50::[]) [(_,_),(_,_),(_,_)] rfl ⟨z1 rfl,z1 rfl,zp rfl (op_chr _ _ _ s33 _ underlying9 rfl rfl hv11),z4 rfl rfl,z8 hg6_4 rfl,zr' rfl (oM rfl),zr' rfl (oM rfl),zr' rfl (oB rfl (ibind (f := int .i64) (Option.some.inj hv12))),zr' rfl (op_chr _ _ _ v12 _ underlying9 rfl rfl hv13),zr' rfl (oB rfl rfl),z3 true rfl,z8 hg6_11 rfl,zr' rfl (oM rfl),zr' rfl (oM rfl),zr' rfl (op_chr _ _ _ s33 _ underlying9 rfl rfl hv14),zr' rfl (oB rfl rfl),zr' rfl (op_move _ _ _ _ (zb hg6_16) rfl),zr' rfl (oM rfl),zr' rfl (oM rfl),zr' rfl (op_chr _ _ _ s33 _ underlying9 rfl rfl hv15),zr' rfl (op_call _ _ 63 _ _ rfl call63 rfl (ok_wherryref11_sign v15 _ hv16) rfl rfl),zr' rfl (op_un _ _ _ _ rfl rfl),zr' rfl (op_pick _ _ true _ rfl rfl),z3 false rfl,zz⟩ ?_
          exact hl49 _ (zi h).symm
         ·refine zg hn (_::_::_::(27,vs s)::(28,vi s33)::(29,.v (.int .u8 v11))::(30,vb (v11 == 46))::(31,vb true)::(32,vs s)::(33,vi s33)::(34,vi v12)::(35,.v (.int .u8 v13))::(36,vb (v13 == 46))::(37,vb (v13 == 46))::(38,vb false)::(39,vs s)::(40,vi s33)::(41,.v (.int .u8 v14))::(42,vb (v14 != 46))::(43,vb false)::(44,.v undef)::(45,.v undef)::(46,.v undef)::(47,.v undef)::(48,.v undef)::(49,vb false)::(50,vb false)::[]) [0,1,2] [0,1,26] (zq [0] 3 27::zq [1] 4 28::zq [3,4] 5 29::zq [5] 6 30::zq [6] 7 31::zq [7,0] 8 32::zq [7,1] 9 33::zq [7,9] 10 34::zq [7,8,10] 11 35::zq [7,11] 12 36::zq [7,12] 13 37::zq [13] 14 38::zq [14,0] 15 39::zq [14,1] 16 40::zq [14,15,16] 17 41::zq [14,17] 18 42::zq [14,18] 19 43::zq [19] 20 44::zq [19] 21 45::zq [19] 22 46::zq [19] 23 47::zq [19] 24 48::zq [14,19] 25 49::zq [14,25] 26 50::[]) [(_,_),(_,_),(_,_)] rfl ⟨z1 rfl,z1 rfl,zp rfl (op_chr _ _ _ s33 _ underlying9 rfl rfl hv11),z4 rfl rfl,z8 hg6_4 rfl,zr' rfl (oM rfl),zr' rfl (oM rfl),zr' rfl (oB rfl (ibind (f := int .i64) (Option.some.inj hv12))),zr' rfl (op_chr _ _ _ v12 _ underlying9 rfl rfl hv13),zr' rfl (oB rfl rfl),z3 true rfl,z8 hg6_11 rfl,zr' rfl (oM rfl),zr' rfl (oM rfl),zr' rfl (op_chr _ _ _ s33 _ underlying9 rfl rfl hv14),zr' rfl (oB rfl rfl),zr' rfl (op_move _ _ _ _ (zb hg6_16) rfl),zt rfl,zt rfl,zt rfl,zt rfl,zt rfl,zr' rfl (op_pick _ _ false _ rfl rfl),z3 false rfl,zz⟩ ?_
          exact hl49 _ (zi h).symm
       ·obtain ⟨v17, hv17, h⟩ := zn h
        refine cond_some h (fun hg6_16 h => ?_) (fun hg6_16 h => ?_)
        ·obtain ⟨v18, hv18, h⟩ := zn h
         obtain ⟨v19, hv19, h⟩ := zn h
         refine zg hn (_::_::_::(27,vs s)::(28,vi s33)::(29,.v (.int .u8 v11))::(30,vb (v11 == 46))::(31,vb false)::(32,.v undef)::(33,.v undef)::(34,.v undef)::(35,.v undef)::(36,.v undef)::(37,vb false)::(38,vb false)::(39,vs s)::(40,vi s33)::(41,.v (.int .u8 v17))::(42,vb (v17 != 46))::(43,vb true)::(44,vs s)::(45,vi s33)::(46,.v (.int .u8 v18))::(47,vb v19)::(48,vb (!v19))::(49,vb (!v19))::(50,vb (!v19))::[]) [0,1,2] [0,1,26] (zq [0] 3 27::zq [1] 4 28::zq [3,4] 5 29::zq [5] 6 30::zq [6] 7 31::zq [7] 8 32::zq [7] 9 33::zq [7] 10 34::zq [7] 11 35::zq [7] 12 36::zq [7] 13 37::zq [13] 14 38::zq [14,0] 15 39::zq [14,1] 16 40::zq [14,15,16] 17 41::zq [14,17] 18 42::zq [14,18] 19 43::zq [19,0] 20 44::zq [19,1] 21 45::zq [19,20,21] 22 46::zq [19,22] 23 47::zq [19,23] 24 48::zq [14,19,24] 25 49::zq [14,25] 26 50::[]) [(_,_),(_,_),(_,_)] rfl ⟨z1 rfl,z1 rfl,zp rfl (op_chr _ _ _ s33 _ underlying9 rfl rfl hv11),z4 rfl rfl,z8 hg6_4 rfl,zt rfl,zt rfl,zt rfl,zt rfl,zt rfl,z3 false rfl,z1 rfl,zr' rfl (oM rfl),zr' rfl (oM rfl),zr' rfl (op_chr _ _ _ s33 _ underlying9 rfl rfl hv17),zr' rfl (oB rfl rfl),zr' rfl (op_move _ _ _ _ (zb hg6_16) rfl),zr' rfl (oM rfl),zr' rfl (oM rfl),zr' rfl (op_chr _ _ _ s33 _ underlying9 rfl rfl hv18),zr' rfl (op_call _ _ 63 _ _ rfl call63 rfl (ok_wherryref11_sign v18 _ hv19) rfl rfl),zr' rfl (op_un _ _ _ _ rfl rfl),zr' rfl (op_pick _ _ true _ rfl rfl),z3 false rfl,zz⟩ ?_
         exact hl49 _ (zi h).symm
        ·refine zg hn (_::_::_::(27,vs s)::(28,vi s33)::(29,.v (.int .u8 v11))::(30,vb (v11 == 46))::(31,vb false)::(32,.v undef)::(33,.v undef)::(34,.v undef)::(35,.v undef)::(36,.v undef)::(37,vb false)::(38,vb false)::(39,vs s)::(40,vi s33)::(41,.v (.int .u8 v17))::(42,vb (v17 != 46))::(43,vb false)::(44,.v undef)::(45,.v undef)::(46,.v undef)::(47,.v undef)::(48,.v undef)::(49,vb false)::(50,vb false)::[]) [0,1,2] [0,1,26] (zq [0] 3 27::zq [1] 4 28::zq [3,4] 5 29::zq [5] 6 30::zq [6] 7 31::zq [7] 8 32::zq [7] 9 33::zq [7] 10 34::zq [7] 11 35::zq [7] 12 36::zq [7] 13 37::zq [13] 14 38::zq [14,0] 15 39::zq [14,1] 16 40::zq [14,15,16] 17 41::zq [14,17] 18 42::zq [14,18] 19 43::zq [19] 20 44::zq [19] 21 45::zq [19] 22 46::zq [19] 23 47::zq [19] 24 48::zq [14,19] 25 49::zq [14,25] 26 50::[]) [(_,_),(_,_),(_,_)] rfl ⟨z1 rfl,z1 rfl,zp rfl (op_chr _ _ _ s33 _ underlying9 rfl rfl hv11),z4 rfl rfl,z8 hg6_4 rfl,zt rfl,zt rfl,zt rfl,zt rfl,zt rfl,z3 false rfl,z1 rfl,zr' rfl (oM rfl),zr' rfl (oM rfl),zr' rfl (op_chr _ _ _ s33 _ underlying9 rfl rfl hv17),zr' rfl (oB rfl rfl),zr' rfl (op_move _ _ _ _ (zb hg6_16) rfl),zt rfl,zt rfl,zt rfl,zt rfl,zt rfl,zr' rfl (op_pick _ _ false _ rfl rfl),z3 false rfl,zz⟩ ?_
         exact hl49 _ (zi h).symm
     ·have h := cond_f hb46 h
      refine ht_exit ?_
      refine pt_x_then ?_
      refine pt_x_then ?_
      refine pt_x_in ?_
      refine pt_pick [] (by kernel_rfl) (es' := []) rfl ?_
      exact hl41 _ (ho43 _ (zi h).symm).symm
  ·intro u6 h hl7 hr8
   obtain ⟨v1, hv1, h⟩ := zn h
   refine cond_some h (fun hg1_4 h => ?_) (fun hg1_4 h => ?_)
   ·refine zg hn (_::(4,vs s)::(5,vi (s.size : Int))::(6,vb v1)::(7,vb (!v1))::(8,vb true)::(9,.v undef)::(10,.v undef)::(11,.v undef)::(12,vb true)::(13,vb true)::(14,.v undef)::(15,.v undef)::(16,.v undef)::(17,.v undef)::(18,.v undef)::(19,.v undef)::(20,vb true)::[]) [0] [0,17] (zq [0] 1 4::zq [1] 2 5::zq [2] 3 6::zq [3] 4 7::zq [4] 5 8::zq [5] 6 9::zq [5] 7 10::zq [5] 8 11::zq [5] 9 12::zq [9] 10 13::zq [10] 11 14::zq [10] 12 15::zq [10] 13 16::zq [10] 14 17::zq [10] 15 18::zq [10] 16 19::zq [10] 17 20::[]) [(_,_),(_,_)] rfl ⟨z1 rfl,zp rfl (oN underlying9 rfl),zp rfl (op_call _ _ 50 _ _ rfl call50 rfl (ok_wherryref11_in (s.size : Int) 1 64 _ hv1) rfl rfl),zp rfl (op_un _ _ _ _ rfl rfl),z8 hg1_4 rfl,zf rfl,zf rfl,zf rfl,z3 true rfl,z1 rfl,zf rfl,zf rfl,zf rfl,zf rfl,zf rfl,zf rfl,z3 true rfl,zz⟩ ?_
    exact hl7 _ (zi h).symm
   ·obtain ⟨v2, hv2, h⟩ := zn h
    refine cond_some h (fun hg1_9 h => ?_) (fun hg1_9 h => ?_)
    ·refine zg hn (_::(4,vs s)::(5,vi (s.size : Int))::(6,vb v1)::(7,vb (!v1))::(8,vb false)::(9,vs s)::(10,.v (.int .u8 v2))::(11,vb (v2 == 46))::(12,vb (v2 == 46))::(13,vb true)::(14,.v undef)::(15,.v undef)::(16,.v undef)::(17,.v undef)::(18,.v undef)::(19,.v undef)::(20,vb true)::[]) [0] [0,17] (zq [0] 1 4::zq [1] 2 5::zq [2] 3 6::zq [3] 4 7::zq [4] 5 8::zq [5,0] 6 9::zq [5,6] 7 10::zq [5,7] 8 11::zq [5,8] 9 12::zq [9] 10 13::zq [10] 11 14::zq [10] 12 15::zq [10] 13 16::zq [10] 14 17::zq [10] 15 18::zq [10] 16 19::zq [10] 17 20::[]) [(_,_),(_,_)] rfl ⟨z1 rfl,zp rfl (oN underlying9 rfl),zp rfl (op_call _ _ 50 _ _ rfl call50 rfl (ok_wherryref11_in (s.size : Int) 1 64 _ hv1) rfl rfl),zp rfl (op_un _ _ _ _ rfl rfl),z8 hg1_4 rfl,zr' rfl (oM rfl),zr' rfl (op_chr _ _ _ 0 _ underlying9 rfl rfl hv2),zr' rfl (oB rfl rfl),z3 false rfl,z8 hg1_9 rfl,zf rfl,zf rfl,zf rfl,zf rfl,zf rfl,zf rfl,z3 true rfl,zz⟩ ?_
     exact hl7 _ (zi h).symm
    ·obtain ⟨v3, hv3, h⟩ := zn h
     obtain ⟨v4, hv4, h⟩ := zn h
     refine zg hn (_::(4,vs s)::(5,vi (s.size : Int))::(6,vb v1)::(7,vb (!v1))::(8,vb false)::(9,vs s)::(10,.v (.int .u8 v2))::(11,vb (v2 == 46))::(12,vb (v2 == 46))::(13,vb false)::(14,vs s)::(15,vs s)::(16,vi (s.size : Int))::(17,vi v3)::(18,.v (.int .u8 v4))::(19,vb (v4 == 46))::(20,vb (v4 == 46))::[]) [0] [0,17] (zq [0] 1 4::zq [1] 2 5::zq [2] 3 6::zq [3] 4 7::zq [4] 5 8::zq [5,0] 6 9::zq [5,6] 7 10::zq [5,7] 8 11::zq [5,8] 9 12::zq [9] 10 13::zq [10,0] 11 14::zq [10,0] 12 15::zq [10,12] 13 16::zq [10,13] 14 17::zq [10,11,14] 15 18::zq [10,15] 16 19::zq [10,16] 17 20::[]) [(_,_),(_,_)] rfl ⟨z1 rfl,zp rfl (oN underlying9 rfl),zp rfl (op_call _ _ 50 _ _ rfl call50 rfl (ok_wherryref11_in (s.size : Int) 1 64 _ hv1) rfl rfl),zp rfl (op_un _ _ _ _ rfl rfl),z8 hg1_4 rfl,zr' rfl (oM rfl),zr' rfl (op_chr _ _ _ 0 _ underlying9 rfl rfl hv2),zr' rfl (oB rfl rfl),z3 false rfl,z8 hg1_9 rfl,zr' rfl (oM rfl),zr' rfl (oM rfl),zr' rfl (oN underlying9 rfl),zr' rfl (oB rfl (ibind (f := int .i64) (Option.some.inj hv3))),zr' rfl (op_chr _ _ _ v3 _ underlying9 rfl rfl hv4),zr' rfl (oB rfl rfl),z3 false rfl,zz⟩ ?_
     exact hl7 _ (zi h).symm
theorem ok_wherryref11_Path (p : T_Path) (r : Bool) (h : Sh.wherryref11_Path p = some r) : FnOK Tryd.prog 41 [.agg [.v (.bool p.Null), .v (.string p.Local), .v (.string p.Domain)]] (.v (.bool r)) := by
  unfold Sh.wherryref11_Path at h
  refine fn_ok func41 rfl (zl rfl) rfl rfl fun g0 hn hio => ?_
  refine zgg hn [_,(1,.box 24 [vb p.Null,vs p.Local,vs p.Domain]),(2,vb false)] [0] [1] [zq [0] 1 1,zq [] 2 2] [(_,_)] rfl ⟨zp rfl (op_box _ _ _ _ rfl rfl rfl),z2 rfl,zz⟩ ?_
  refine ht_seq ?_
  refine zgg hn [_,(3,.ptr 1 0),(4,vb p.Null)] [0] [0,2] [zq [0] 1 3,zq [1,0] 2 4] [(_,_),(_,_)] rfl ⟨zp rfl (oF underlying24 rfl sz4),zp rfl (oL underlying4 rfl),zz⟩ ?_
  refine ht_cond _ rfl (fun hb1 => ?_) (fun hb1 => ?_)
  ·have h := cond_t hb1 h
   refine ht_seq ?_
   refine ht_joinS h (fun (s2 : Bool) => [(2, .v (.bool s2))]) ?_ ?_
   ·rintro s2 h
    refine pt_then (ht_ret ?_)
    refine pt_r_then ?_
    obtain rfl := zi h
    exact pt_ret hio rfl (.tmp _ _ .nil) rfl rfl
   ·intro u3 h hl4 hr5
    refine cond_some h (fun hg2_3 h => ?_) (fun hg2_3 h => ?_)
    ·refine zg hn [_,_,(5,.ptr 1 1),(6,vs p.Local),(7,vb (p.Local.toList == z0.toList)),(8,vb true),(9,.ptr 1 2),(10,vs p.Domain),(11,vb (p.Domain.toList == z0.toList)),(12,vb (p.Domain.toList == z0.toList)),(2,vb (p.Domain.toList == z0.toList))] [0,1] [10] [zq [0] 2 5,zq [2,0] 3 6,zq [3] 4 7,zq [4] 5 8,zq [5,0] 6 9,zq [5,6,0] 7 10,zq [5,7] 8 11,zq [5,8] 9 12,zq [9] 10 2] [(_,_)] rfl ⟨zp rfl (oF underlying24 rfl sz9),zp rfl (oL underlying9 rfl),z4 rfl rfl,z8 hg2_3 rfl,zr' rfl (oF underlying24 rfl sz9),zr' rfl (oL underlying9 rfl),zr' rfl (oB rfl rfl),z3 true rfl,z2 rfl,zz⟩ ?_
     exact hl4 _ (zi h).symm
    ·refine zg hn [_,_,(5,.ptr 1 1),(6,vs p.Local),(7,vb (p.Local.toList == z0.toList)),(8,vb false),(9,.v undef),(10,.v undef),(11,.v undef),(12,vb false),(2,vb false)] [0,1] [10] [zq [0] 2 5,zq [2,0] 3 6,zq [3] 4 7,zq [4] 5 8,zq [5] 6 9,zq [5] 7 10,zq [5] 8 11,zq [5] 9 12,zq [9] 10 2] [(_,_)] rfl ⟨zp rfl (oF underlying24 rfl sz9),zp rfl (oL underlying9 rfl),z4 rfl rfl,z8 hg2_3 rfl,zt rfl,zt rfl,zt rfl,z3 false rfl,z2 rfl,zz⟩ ?_
     exact hl4 _ (zi h).symm
  ·have h := cond_f hb1 h
   refine ht_skip ?_
   refine pt_then (ht_seq ?_)
   refine ht_joinS h (fun (s8 : Bool) => [(2, .v (.bool s8))]) ?_ ?_
   ·rintro s8 h
    refine pt_then (ht_ret ?_)
    obtain rfl := zi h
    exact pt_ret hio rfl (.tmp _ _ .nil) rfl rfl
   ·intro u9 h hl10 hr11
    obtain ⟨v6, hv6, h⟩ := zn h
    refine cond_some h (fun hg3_3 h => ?_) (fun hg3_3 h => ?_)
    ·obtain ⟨v7, hv7, h⟩ := zn h
     refine zg hn [_,_,(13,.ptr 1 1),(14,vs p.Local),(15,vb v6),(16,vb true),(17,.ptr 1 2),(18,vs p.Domain),(19,vb v7),(20,vb v7),(2,vb v7)] [0,1] [10] [zq [0] 2 13,zq [2,0] 3 14,zq [3] 4 15,zq [4] 5 16,zq [5,0] 6 17,zq [5,6,0] 7 18,zq [5,7] 8 19,zq [5,8] 9 20,zq [9] 10 2] [(_,_)] rfl ⟨zp rfl (oF underlying24 rfl sz9),zp rfl (oL underlying9 rfl),zp rfl (op_call _ _ 54 _ _ rfl call54 rfl (ok_wherryref11_Local p.Local _ hv6) rfl rfl),z8 hg3_3 rfl,zr' rfl (oF underlying24 rfl sz9),zr' rfl (oL underlying9 rfl),zr' rfl (op_call _ _ 36 _ _ rfl call36 rfl (ok_wherryref11_Domain p.Domain _ hv7) rfl rfl),z3 true rfl,z2 rfl,zz⟩ ?_
     exact hl10 _ (zi h).symm
    ·refine zg hn [_,_,(13,.ptr 1 1),(14,vs p.Local),(15,vb v6),(16,vb false),(17,.v undef),(18,.v undef),(19,.v undef),(20,vb false),(2,vb false)] [0,1] [10] [zq [0] 2 13,zq [2,0] 3 14,zq [3] 4 15,zq [4] 5 16,zq [5] 6 17,zq [5] 7 18,zq [5] 8 19,zq [5] 9 20,zq [9] 10 2] [(_,_)] rfl ⟨zp rfl (oF underlying24 rfl sz9),zp rfl (oL underlying9 rfl),zp rfl (op_call _ _ 54 _ _ rfl call54 rfl (ok_wherryref11_Local p.Local _ hv6) rfl rfl),z8 hg3_3 rfl,zt rfl,zt rfl,zt rfl,z3 false rfl,z2 rfl,zz⟩ ?_
     exact hl10 _ (zi h).symm
theorem ok_wherryref11_RightReport (site : ByteArray) (sender : T_Path) (rcpt : T_Path) (r : Bool) (h : Sh.wherryref11_RightReport site sender rcpt = some r) : FnOK Tryd.prog 23 [.v (.string site), .agg [.v (.bool sender.Null), .v (.string sender.Local), .v (.string sender.Domain)], .agg [.v (.bool rcpt.Null), .v (.string rcpt.Local), .v (.string rcpt.Domain)]] (.v (.bool r)) := by
  unfold Sh.wherryref11_RightReport at h
  refine fn_ok func23 rfl (zl rfl) rfl rfl fun g0 hn hio => ?_
  refine zgg hn [_,_,_,(4,.box 24 [vb sender.Null,vs sender.Local,vs sender.Domain]),(5,.box 24 [vb rcpt.Null,vs rcpt.Local,vs rcpt.Domain]),(6,vb false)] [0,1,2] [0,3,4] [zq [1] 3 4,zq [2] 4 5,zq [] 5 6] [(_,_),(_,_),(_,_)] rfl ⟨zp rfl (op_box _ _ _ _ rfl rfl rfl),zp rfl (op_box _ _ _ _ rfl rfl rfl),z2 rfl,zz⟩ ?_
  refine ht_seq ?_
  refine ht_joinS h (fun (s4 : Bool) => [(6, .v (.bool s4))]) ?_ ?_
  ·rintro s4 h
   refine pt_then (ht_ret ?_)
   obtain rfl := zi h
   exact pt_ret hio rfl (.tmp _ _ .nil) rfl rfl
  ·intro u5 h hl6 hr7
   obtain ⟨v1, hv1, h⟩ := zn h
   refine cond_some h (fun hg1_2 h => ?_) (fun hg1_2 h => ?_)
   ·obtain ⟨v2, hv2, h⟩ := zn h
    refine cond_some h (fun hg1_6 h => ?_) (fun hg1_6 h => ?_)
    ·obtain ⟨v3, hv3, h⟩ := zn h
     refine cond_some h (fun hg1_10 h => ?_) (fun hg1_10 h => ?_)
     ·refine cond_some h (fun hg1_15 h => ?_) (fun hg1_15 h => ?_)
      ·refine zg hn (_::_::_::(7,vs site)::(8,vb v1)::(9,vb true)::(10,.agg [vb sender.Null,vs sender.Local,vs sender.Domain])::(11,vb v2)::(12,vb v2)::(13,vb true)::(14,.agg [vb rcpt.Null,vs rcpt.Local,vs rcpt.Domain])::(15,vb v3)::(16,vb v3)::(17,vb true)::(18,.ptr 4 0)::(19,vb sender.Null)::(20,vb (!sender.Null))::(21,vb (!sender.Null))::(22,vb true)::(23,.ptr 5 0)::(24,vb rcpt.Null)::(25,vb (!rcpt.Null))::(26,vb (!rcpt.Null))::(6,vb (!rcpt.Null))::[]) [0,1,2] [23] (zq [0] 3 7::zq [3] 4 8::zq [4] 5 9::zq [5,1] 6 10::zq [5,6] 7 11::zq [5,7] 8 12::zq [8] 9 13::zq [9,2] 10 14::zq [9,10] 11 15::zq [9,11] 12 16::zq [12] 13 17::zq [13,1] 14 18::zq [13,14,1] 15 19::zq [13,15] 16 20::zq [13,16] 17 21::zq [17] 18 22::zq [18,2] 19 23::zq [18,19,2] 20 24::zq [18,20] 21 25::zq [18,21] 22 26::zq [22] 23 6::[]) [(_,_)] rfl ⟨z1 rfl,zp rfl (op_call _ _ 36 _ _ rfl call36 rfl (ok_wherryref11_Domain site _ hv1) rfl rfl),z8 hg1_2 rfl,zr' rfl (op_loadA _ _ _ _ _ _ _ underlying24 rfl sz24 rfl rfl (zl rfl) rfl rfl),zr' rfl (op_call _ _ 41 _ _ rfl call41 rfl (ok_wherryref11_Path sender _ hv2) rfl rfl),z3 true rfl,z8 hg1_6 rfl,zr' rfl (op_loadA _ _ _ _ _ _ _ underlying24 rfl sz24 rfl rfl (zl rfl) rfl rfl),zr' rfl (op_call _ _ 41 _ _ rfl call41 rfl (ok_wherryref11_Path rcpt _ hv3) rfl rfl),z3 true rfl,z8 hg1_10 rfl,zr' rfl (oF underlying24 rfl sz4),zr' rfl (oL underlying4 rfl),zr' rfl (op_un _ _ _ _ rfl rfl),z3 true rfl,z8 hg1_15 rfl,zr' rfl (oF underlying24 rfl sz4),zr' rfl (oL underlying4 rfl),zr' rfl (op_un _ _ _ _ rfl rfl),z3 true rfl,z2 rfl,zz⟩ ?_
       exact hl6 _ (zi h).symm
      ·refine zg hn (_::_::_::(7,vs site)::(8,vb v1)::(9,vb true)::(10,.agg [vb sender.Null,vs sender.Local,vs sender.Domain])::(11,vb v2)::(12,vb v2)::(13,vb true)::(14,.agg [vb rcpt.Null,vs rcpt.Local,vs rcpt.Domain])::(15,vb v3)::(16,vb v3)::(17,vb true)::(18,.ptr 4 0)::(19,vb sender.Null)::(20,vb (!sender.Null))::(21,vb (!sender.Null))::(22,vb false)::(23,.v undef)::(24,.v undef)::(25,.v undef)::(26,vb false)::(6,vb false)::[]) [0,1,2] [23] (zq [0] 3 7::zq [3] 4 8::zq [4] 5 9::zq [5,1] 6 10::zq [5,6] 7 11::zq [5,7] 8 12::zq [8] 9 13::zq [9,2] 10 14::zq [9,10] 11 15::zq [9,11] 12 16::zq [12] 13 17::zq [13,1] 14 18::zq [13,14,1] 15 19::zq [13,15] 16 20::zq [13,16] 17 21::zq [17] 18 22::zq [18] 19 23::zq [18] 20 24::zq [18] 21 25::zq [18] 22 26::zq [22] 23 6::[]) [(_,_)] rfl ⟨z1 rfl,zp rfl (op_call _ _ 36 _ _ rfl call36 rfl (ok_wherryref11_Domain site _ hv1) rfl rfl),z8 hg1_2 rfl,zr' rfl (op_loadA _ _ _ _ _ _ _ underlying24 rfl sz24 rfl rfl (zl rfl) rfl rfl),zr' rfl (op_call _ _ 41 _ _ rfl call41 rfl (ok_wherryref11_Path sender _ hv2) rfl rfl),z3 true rfl,z8 hg1_6 rfl,zr' rfl (op_loadA _ _ _ _ _ _ _ underlying24 rfl sz24 rfl rfl (zl rfl) rfl rfl),zr' rfl (op_call _ _ 41 _ _ rfl call41 rfl (ok_wherryref11_Path rcpt _ hv3) rfl rfl),z3 true rfl,z8 hg1_10 rfl,zr' rfl (oF underlying24 rfl sz4),zr' rfl (oL underlying4 rfl),zr' rfl (op_un _ _ _ _ rfl rfl),z3 true rfl,z8 hg1_15 rfl,zt rfl,zt rfl,zt rfl,z3 false rfl,z2 rfl,zz⟩ ?_
       exact hl6 _ (zi h).symm
     ·refine zg hn (_::_::_::(7,vs site)::(8,vb v1)::(9,vb true)::(10,.agg [vb sender.Null,vs sender.Local,vs sender.Domain])::(11,vb v2)::(12,vb v2)::(13,vb true)::(14,.agg [vb rcpt.Null,vs rcpt.Local,vs rcpt.Domain])::(15,vb v3)::(16,vb v3)::(17,vb false)::(18,.v undef)::(19,.v undef)::(20,.v undef)::(21,vb false)::(22,vb false)::(23,.v undef)::(24,.v undef)::(25,.v undef)::(26,vb false)::(6,vb false)::[]) [0,1,2] [23] (zq [0] 3 7::zq [3] 4 8::zq [4] 5 9::zq [5,1] 6 10::zq [5,6] 7 11::zq [5,7] 8 12::zq [8] 9 13::zq [9,2] 10 14::zq [9,10] 11 15::zq [9,11] 12 16::zq [12] 13 17::zq [13] 14 18::zq [13] 15 19::zq [13] 16 20::zq [13] 17 21::zq [17] 18 22::zq [18] 19 23::zq [18] 20 24::zq [18] 21 25::zq [18] 22 26::zq [22] 23 6::[]) [(_,_)] rfl ⟨z1 rfl,zp rfl (op_call _ _ 36 _ _ rfl call36 rfl (ok_wherryref11_Domain site _ hv1) rfl rfl),z8 hg1_2 rfl,zr' rfl (op_loadA _ _ _ _ _ _ _ underlying24 rfl sz24 rfl rfl (zl rfl) rfl rfl),zr' rfl (op_call _ _ 41 _ _ rfl call41 rfl (ok_wherryref11_Path sender _ hv2) rfl rfl),z3 true rfl,z8 hg1_6 rfl,zr' rfl (op_loadA _ _ _ _ _ _ _ underlying24 rfl sz24 rfl rfl (zl rfl) rfl rfl),zr' rfl (op_call _ _ 41 _ _ rfl call41 rfl (ok_wherryref11_Path rcpt _ hv3) rfl rfl),z3 true rfl,z8 hg1_10 rfl,zt rfl,zt rfl,zt rfl,z3 false rfl,z1 rfl,zt rfl,zt rfl,zt rfl,z3 false rfl,z2 rfl,zz⟩ ?_
      exact hl6 _ (zi h).symm
    ·refine zg hn (_::_::_::(7,vs site)::(8,vb v1)::(9,vb true)::(10,.agg [vb sender.Null,vs sender.Local,vs sender.Domain])::(11,vb v2)::(12,vb v2)::(13,vb false)::(14,.v undef)::(15,.v undef)::(16,vb false)::(17,vb false)::(18,.v undef)::(19,.v undef)::(20,.v undef)::(21,vb false)::(22,vb false)::(23,.v undef)::(24,.v undef)::(25,.v undef)::(26,vb false)::(6,vb false)::[]) [0,1,2] [23] (zq [0] 3 7::zq [3] 4 8::zq [4] 5 9::zq [5,1] 6 10::zq [5,6] 7 11::zq [5,7] 8 12::zq [8] 9 13::zq [9] 10 14::zq [9] 11 15::zq [9] 12 16::zq [12] 13 17::zq [13] 14 18::zq [13] 15 19::zq [13] 16 20::zq [13] 17 21::zq [17] 18 22::zq [18] 19 23::zq [18] 20 24::zq [18] 21 25::zq [18] 22 26::zq [22] 23 6::[]) [(_,_)] rfl ⟨z1 rfl,zp rfl (op_call _ _ 36 _ _ rfl call36 rfl (ok_wherryref11_Domain site _ hv1) rfl rfl),z8 hg1_2 rfl,zr' rfl (op_loadA _ _ _ _ _ _ _ underlying24 rfl sz24 rfl rfl (zl rfl) rfl rfl),zr' rfl (op_call _ _ 41 _ _ rfl call41 rfl (ok_wherryref11_Path sender _ hv2) rfl rfl),z3 true rfl,z8 hg1_6 rfl,zt rfl,zt rfl,z3 false rfl,z1 rfl,zt rfl,zt rfl,zt rfl,z3 false rfl,z1 rfl,zt rfl,zt rfl,zt rfl,z3 false rfl,z2 rfl,zz⟩ ?_
     exact hl6 _ (zi h).symm
   ·refine zg hn (_::_::_::(7,vs site)::(8,vb v1)::(9,vb false)::(10,.v undef)::(11,.v undef)::(12,vb false)::(13,vb false)::(14,.v undef)::(15,.v undef)::(16,vb false)::(17,vb false)::(18,.v undef)::(19,.v undef)::(20,.v undef)::(21,vb false)::(22,vb false)::(23,.v undef)::(24,.v undef)::(25,.v undef)::(26,vb false)::(6,vb false)::[]) [0,1,2] [23] (zq [0] 3 7::zq [3] 4 8::zq [4] 5 9::zq [5] 6 10::zq [5] 7 11::zq [5] 8 12::zq [8] 9 13::zq [9] 10 14::zq [9] 11 15::zq [9] 12 16::zq [12] 13 17::zq [13] 14 18::zq [13] 15 19::zq [13] 16 20::zq [13] 17 21::zq [17] 18 22::zq [18] 19 23::zq [18] 20 24::zq [18] 21 25::zq [18] 22 26::zq [22] 23 6::[]) [(_,_)] rfl ⟨z1 rfl,zp rfl (op_call _ _ 36 _ _ rfl call36 rfl (ok_wherryref11_Domain site _ hv1) rfl rfl),z8 hg1_2 rfl,zt rfl,zt rfl,z3 false rfl,z1 rfl,zt rfl,zt rfl,z3 false rfl,z1 rfl,zt rfl,zt rfl,zt rfl,z3 false rfl,z1 rfl,zt rfl,zt rfl,zt rfl,z3 false rfl,z2 rfl,zz⟩ ?_
    exact hl6 _ (zi h).symm
theorem ok_wherryref11_Text (p : T_Path) (r : ByteArray) (h : Sh.wherryref11_Text p = some r) : FnOK Tryd.prog 42 [.agg [.v (.bool p.Null), .v (.string p.Local), .v (.string p.Domain)]] (.v (.string r)) := by
  unfold Sh.wherryref11_Text at h
  refine fn_ok func42 rfl (zl rfl) rfl rfl fun g0 hn hio => ?_
  refine zgg hn [_,(1,.box 24 [vb p.Null,vs p.Local,vs p.Domain]),(2,vs z0)] [0] [1] [zq [0] 1 1,zq [] 2 2] [(_,_)] rfl ⟨zp rfl (op_box _ _ _ _ rfl rfl rfl),z2 rfl,zz⟩ ?_
  refine ht_seq ?_
  refine zgg hn [_,(3,.ptr 1 0),(4,vb p.Null)] [0] [0,2] [zq [0] 1 3,zq [1,0] 2 4] [(_,_),(_,_)] rfl ⟨zp rfl (oF underlying24 rfl sz4),zp rfl (oL underlying4 rfl),zz⟩ ?_
  refine ht_cond _ rfl (fun hb1 => ?_) (fun hb1 => ?_)
  ·have h := cond_t hb1 h
   refine zgg hn [_,_,(2,vs (⟨#[60,62]⟩ : ByteArray))] [0,1] [2] [zq [] 2 2] [(_,_)] rfl ⟨z2 rfl,zz⟩ ?_
   refine ht_ret ?_
   refine pt_r_then ?_
   obtain rfl := zi h
   exact pt_ret hio rfl (.tmp _ _ .nil) rfl rfl
  ·have h := cond_f hb1 h
   refine ht_skip ?_
   refine pt_then (ht_seq ?_)
   obtain ⟨v2, hv2, h⟩ := zn h
   obtain ⟨v3, hv3, h⟩ := zn h
   obtain ⟨v4, hv4, h⟩ := zn h
   obtain ⟨v5, hv5, h⟩ := zn h
   refine zg hn [_,_,(5,.ptr 1 1),(6,vs p.Local),(7,vs v2),(8,vs v3),(9,.ptr 1 2),(10,vs p.Domain),(11,vs v4),(12,vs v5),(2,vs v5)] [0,1] [10] [zq [0] 2 5,zq [2,0] 3 6,zq [3] 4 7,zq [4] 5 8,zq [0] 6 9,zq [6,0] 7 10,zq [5,7] 8 11,zq [8] 9 12,zq [9] 10 2] [(_,_)] rfl ⟨zp rfl (oF underlying24 rfl sz9),zp rfl (oL underlying9 rfl),zp rfl (oB rfl (cat_ok hv2)),zp rfl (oB rfl (cat_ok hv3)),zp rfl (oF underlying24 rfl sz9),zp rfl (oL underlying9 rfl),zp rfl (oB rfl (cat_ok hv4)),zp rfl (oB rfl (cat_ok hv5)),z2 rfl,zz⟩ ?_
   refine pt_then (ht_ret ?_)
   obtain rfl := zi h
   exact pt_ret hio rfl (.tmp _ _ .nil) rfl rfl
theorem ok_wherryref11_Report (site : ByteArray) (sender : T_Path) (rcpt : T_Path) (r : (List Int)) (h : Sh.wherryref11_Report site sender rcpt = some r) : FnOK Tryd.prog 24 [.v (.string site), .agg [.v (.bool sender.Null), .v (.string sender.Local), .v (.string sender.Domain)], .agg [.v (.bool rcpt.Null), .v (.string rcpt.Local), .v (.string rcpt.Domain)]] (.mkr 5 (map (int .u8) r)) := by
  unfold Sh.wherryref11_Report at h
  refine fn_ok func24 rfl (zl rfl) rfl rfl fun g0 hn hio => ?_
  refine zgg hn [_,_,_,(4,.box 24 [vb sender.Null,vs sender.Local,vs sender.Domain]),(5,.box 24 [vb rcpt.Null,vs rcpt.Local,vs rcpt.Domain]),(6,.v (.slice none 0 0))] [0,1,2] [0,3,4] [zq [1] 3 4,zq [2] 4 5,zq [] 5 6] [(_,_),(_,_),(_,_)] rfl ⟨zp rfl (op_box _ _ _ _ rfl rfl rfl),zp rfl (op_box _ _ _ _ rfl rfl rfl),z2 rfl,zz⟩ ?_
  refine ht_seq ?_
  obtain ⟨v1, hv1, h⟩ := zn h
  obtain ⟨v2, hv2, h⟩ := zn h
  obtain ⟨v3, hv3, h⟩ := zn h
  obtain ⟨v4, hv4, h⟩ := zn h
  obtain ⟨v5, hv5, h⟩ := zn h
  obtain ⟨v6, hv6, h⟩ := zn h
  obtain ⟨v7, hv7, h⟩ := zn h
  obtain ⟨v8, hv8, h⟩ := zn h
  obtain ⟨v9, hv9, h⟩ := zn h
  obtain ⟨v10, hv10, h⟩ := zn h
  refine ht_anyR (by kernel_rfl) hn (El := (_ :: _ :: _ :: (10, .v (.string site)) :: (11, .v (.string v1)) :: (12, .v (.string v2)) :: (13, .agg [.v (.bool sender.Null), .v (.string sender.Local), .v (.string sender.Domain)]) :: (14, .v (.string v3)) :: (15, .v (.string v4)) :: (16, .agg [.v (.bool rcpt.Null), .v (.string rcpt.Local), .v (.string rcpt.Domain)]) :: (17, .v (.string v5)) :: (18, .v (.string v6)) :: (19, .v (.string v7)) :: (20, .v (.string site)) :: (21, .v (.string v8)) :: (22, .agg [.v (.bool rcpt.Null), .v (.string rcpt.Local), .v (.string rcpt.Domain)]) :: (23, .v (.string v9)) :: (24, .v (.string v10)) :: (25, .fl (.own 9) 1 (map Value.string ([v2, v4, (⟨#[83, 117, 98, 106, 101, 99, 116, 58, 32, 85, 110, 100, 101, 108, 105, 118, 101, 114, 101, 100, 32, 109, 97, 105, 108]⟩ : ByteArray), (⟨#[67, 111, 110, 116, 101, 110, 116, 45, 84, 121, 112, 101, 58, 32, 109, 117, 108, 116, 105, 112, 97, 114, 116, 47, 114, 101, 112, 111, 114, 116, 59, 32, 114, 101, 112, 111, 114, 116, 45, 116, 121, 112, 101, 61, 100, 101, 108, 105, 118, 101, 114, 121, 45, 115, 116, 97, 116, 117, 115, 59, 32, 98, 111, 117, 110, 100, 97, 114, 121, 61, 119]⟩ : ByteArray), (⟨#[]⟩ : ByteArray), (⟨#[45, 45, 119]⟩ : ByteArray), (⟨#[67, 111, 110, 116, 101, 110, 116, 45, 84, 121, 112, 101, 58, 32, 116, 101, 120, 116, 47, 112, 108, 97, 105, 110]⟩ : ByteArray), (⟨#[]⟩ : ByteArray), v7, (⟨#[45, 45, 119]⟩ : ByteArray), (⟨#[67, 111, 110, 116, 101, 110, 116, 45, 84, 121, 112, 101, 58, 32, 109, 101, 115, 115, 97, 103, 101, 47, 100, 101, 108, 105, 118, 101, 114, 121, 45, 115, 116, 97, 116, 117, 115]⟩ : ByteArray), (⟨#[]⟩ : ByteArray), v8, (⟨#[]⟩ : ByteArray), v10, (⟨#[65, 99, 116, 105, 111, 110, 58, 32, 102, 97, 105, 108, 101, 100]⟩ : ByteArray), (⟨#[83, 116, 97, 116, 117, 115, 58, 32, 52, 46, 52, 46, 55]⟩ : ByteArray), (⟨#[45, 45, 119, 45, 45]⟩ : ByteArray)]))) :: (7, .fl (.own 9) 1 (map Value.string ([v2, v4, (⟨#[83, 117, 98, 106, 101, 99, 116, 58, 32, 85, 110, 100, 101, 108, 105, 118, 101, 114, 101, 100, 32, 109, 97, 105, 108]⟩ : ByteArray), (⟨#[67, 111, 110, 116, 101, 110, 116, 45, 84, 121, 112, 101, 58, 32, 109, 117, 108, 116, 105, 112, 97, 114, 116, 47, 114, 101, 112, 111, 114, 116, 59, 32, 114, 101, 112, 111, 114, 116, 45, 116, 121, 112, 101, 61, 100, 101, 108, 105, 118, 101, 114, 121, 45, 115, 116, 97, 116, 117, 115, 59, 32, 98, 111, 117, 110, 100, 97, 114, 121, 61, 119]⟩ : ByteArray), (⟨#[]⟩ : ByteArray), (⟨#[45, 45, 119]⟩ : ByteArray), (⟨#[67, 111, 110, 116, 101, 110, 116, 45, 84, 121, 112, 101, 58, 32, 116, 101, 120, 116, 47, 112, 108, 97, 105, 110]⟩ : ByteArray), (⟨#[]⟩ : ByteArray), v7, (⟨#[45, 45, 119]⟩ : ByteArray), (⟨#[67, 111, 110, 116, 101, 110, 116, 45, 84, 121, 112, 101, 58, 32, 109, 101, 115, 115, 97, 103, 101, 47, 100, 101, 108, 105, 118, 101, 114, 121, 45, 115, 116, 97, 116, 117, 115]⟩ : ByteArray), (⟨#[]⟩ : ByteArray), v8, (⟨#[]⟩ : ByteArray), v10, (⟨#[65, 99, 116, 105, 111, 110, 58, 32, 102, 97, 105, 108, 101, 100]⟩ : ByteArray), (⟨#[83, 116, 97, 116, 117, 115, 58, 32, 52, 46, 52, 46, 55]⟩ : ByteArray), (⟨#[45, 45, 119, 45, 45]⟩ : ByteArray)]))) :: [])) (init := [0, 1, 2]) (fin := [19]) (sps := (zq [0] 3 10 :: zq [3] 4 11 :: zq [4] 5 12 :: zq [1] 6 13 :: zq [6] 7 14 :: zq [7] 8 15 :: zq [2] 9 16 :: zq [9] 10 17 :: zq [10] 11 18 :: zq [11] 12 19 :: zq [0] 13 20 :: zq [13] 14 21 :: zq [2] 15 22 :: zq [15] 16 23 :: zq [16] 17 24 :: zq [5,8,12,14,17] 18 25 :: ⟨[], [18], [19], [(.slot 7)]⟩ :: [])) (es' := [(7, .fl (.own 9) 1 (map Value.string ([v2, v4, (⟨#[83, 117, 98, 106, 101, 99, 116, 58, 32, 85, 110, 100, 101, 108, 105, 118, 101, 114, 101, 100, 32, 109, 97, 105, 108]⟩ : ByteArray), (⟨#[67, 111, 110, 116, 101, 110, 116, 45, 84, 121, 112, 101, 58, 32, 109, 117, 108, 116, 105, 112, 97, 114, 116, 47, 114, 101, 112, 111, 114, 116, 59, 32, 114, 101, 112, 111, 114, 116, 45, 116, 121, 112, 101, 61, 100, 101, 108, 105, 118, 101, 114, 121, 45, 115, 116, 97, 116, 117, 115, 59, 32, 98, 111, 117, 110, 100, 97, 114, 121, 61, 119]⟩ : ByteArray), (⟨#[]⟩ : ByteArray), (⟨#[45, 45, 119]⟩ : ByteArray), (⟨#[67, 111, 110, 116, 101, 110, 116, 45, 84, 121, 112, 101, 58, 32, 116, 101, 120, 116, 47, 112, 108, 97, 105, 110]⟩ : ByteArray), (⟨#[]⟩ : ByteArray), v7, (⟨#[45, 45, 119]⟩ : ByteArray), (⟨#[67, 111, 110, 116, 101, 110, 116, 45, 84, 121, 112, 101, 58, 32, 109, 101, 115, 115, 97, 103, 101, 47, 100, 101, 108, 105, 118, 101, 114, 121, 45, 115, 116, 97, 116, 117, 115]⟩ : ByteArray), (⟨#[]⟩ : ByteArray), v8, (⟨#[]⟩ : ByteArray), v10, (⟨#[65, 99, 116, 105, 111, 110, 58, 32, 102, 97, 105, 108, 101, 100]⟩ : ByteArray), (⟨#[83, 116, 97, 116, 117, 115, 58, 32, 52, 46, 52, 46, 55]⟩ : ByteArray), (⟨#[45, 45, 119, 45, 45]⟩ : ByteArray)])))]) (by kernel_rfl) rfl rfl ⟨z1 rfl,zp rfl (oB rfl (cat_ok hv1)),zp rfl (oB rfl (cat_ok hv2)),zp rfl (op_loadA _ _ _ _ _ _ _ underlying24 rfl sz24 rfl rfl (zl rfl) rfl rfl),zp rfl (op_call _ _ 42 _ _ rfl call42 rfl (ok_wherryref11_Text sender _ hv3) rfl rfl),zp rfl (oB rfl (cat_ok hv4)),zp rfl (op_loadA _ _ _ _ _ _ _ underlying24 rfl sz24 rfl rfl (zl rfl) rfl rfl),zp rfl (op_call _ _ 42 _ _ rfl call42 rfl (ok_wherryref11_Text rcpt _ hv5) rfl rfl),zp rfl (oB rfl (cat_ok hv6)),zp rfl (oB rfl (cat_ok hv7)),z1 rfl,zp rfl (oB rfl (cat_ok hv8)),zp rfl (op_loadA _ _ _ _ _ _ _ underlying24 rfl sz24 rfl rfl (zl rfl) rfl rfl),zp rfl (op_call _ _ 42 _ _ rfl call42 rfl (ok_wherryref11_Text rcpt _ hv9) rfl rfl),zp rfl (oB rfl (cat_ok hv10)),zp rfl (op_buildSlice _ _ 1 (.string ByteArray.empty) (map Value.string ([v2, v4, (⟨#[83, 117, 98, 106, 101, 99, 116, 58, 32, 85, 110, 100, 101, 108, 105, 118, 101, 114, 101, 100, 32, 109, 97, 105, 108]⟩ : ByteArray), (⟨#[67, 111, 110, 116, 101, 110, 116, 45, 84, 121, 112, 101, 58, 32, 109, 117, 108, 116, 105, 112, 97, 114, 116, 47, 114, 101, 112, 111, 114, 116, 59, 32, 114, 101, 112, 111, 114, 116, 45, 116, 121, 112, 101, 61, 100, 101, 108, 105, 118, 101, 114, 121, 45, 115, 116, 97, 116, 117, 115, 59, 32, 98, 111, 117, 110, 100, 97, 114, 121, 61, 119]⟩ : ByteArray), (⟨#[]⟩ : ByteArray), (⟨#[45, 45, 119]⟩ : ByteArray), (⟨#[67, 111, 110, 116, 101, 110, 116, 45, 84, 121, 112, 101, 58, 32, 116, 101, 120, 116, 47, 112, 108, 97, 105, 110]⟩ : ByteArray), (⟨#[]⟩ : ByteArray), v7, (⟨#[45, 45, 119]⟩ : ByteArray), (⟨#[67, 111, 110, 116, 101, 110, 116, 45, 84, 121, 112, 101, 58, 32, 109, 101, 115, 115, 97, 103, 101, 47, 100, 101, 108, 105, 118, 101, 114, 121, 45, 115, 116, 97, 116, 117, 115]⟩ : ByteArray), (⟨#[]⟩ : ByteArray), v8, (⟨#[]⟩ : ByteArray), v10, (⟨#[65, 99, 116, 105, 111, 110, 58, 32, 102, 97, 105, 108, 101, 100]⟩ : ByteArray), (⟨#[83, 116, 97, 116, 117, 115, 58, 32, 52, 46, 52, 46, 55]⟩ : ByteArray), (⟨#[45, 45, 119, 45, 45]⟩ : ByteArray)])) [(0, .string v2), (1, .string v4), (2, .string (⟨#[83, 117, 98, 106, 101, 99, 116, 58, 32, 85, 110, 100, 101, 108, 105, 118, 101, 114, 101, 100, 32, 109, 97, 105, 108]⟩ : ByteArray)), (3, .string (⟨#[67, 111, 110, 116, 101, 110, 116, 45, 84, 121, 112, 101, 58, 32, 109, 117, 108, 116, 105, 112, 97, 114, 116, 47, 114, 101, 112, 111, 114, 116, 59, 32, 114, 101, 112, 111, 114, 116, 45, 116, 121, 112, 101, 61, 100, 101, 108, 105, 118, 101, 114, 121, 45, 115, 116, 97, 116, 117, 115, 59, 32, 98, 111, 117, 110, 100, 97, 114, 121, 61, 119]⟩ : ByteArray)), (4, .string ByteArray.empty), (5, .string (⟨#[45, 45, 119]⟩ : ByteArray)), (6, .string (⟨#[67, 111, 110, 116, 101, 110, 116, 45, 84, 121, 112, 101, 58, 32, 116, 101, 120, 116, 47, 112, 108, 97, 105, 110]⟩ : ByteArray)), (7, .string ByteArray.empty), (8, .string v7), (9, .string (⟨#[45, 45, 119]⟩ : ByteArray)), (10, .string (⟨#[67, 111, 110, 116, 101, 110, 116, 45, 84, 121, 112, 101, 58, 32, 109, 101, 115, 115, 97, 103, 101, 47, 100, 101, 108, 105, 118, 101, 114, 121, 45, 115, 116, 97, 116, 117, 115]⟩ : ByteArray)), (11, .string ByteArray.empty), (12, .string v8), (13, .string ByteArray.empty), (14, .string v10), (15, .string (⟨#[65, 99, 116, 105, 111, 110, 58, 32, 102, 97, 105, 108, 101, 100]⟩ : ByteArray)), (16, .string (⟨#[83, 116, 97, 116, 117, 115, 58, 32, 52, 46, 52, 46, 55]⟩ : ByteArray)), (17, .string (⟨#[45, 45, 119, 45, 45]⟩ : ByteArray))] underlying90 sz9 zr9 (fun _ V w o a hv hes => by have e0 := rd_v hv hes (x := .tmp 12) rfl; have e1 := rd_v hv hes (x := .tmp 15) rfl; have e8 := rd_v hv hes (x := .tmp 19) rfl; have e12 := rd_v hv hes (x := .tmp 21) rfl; have e14 := rd_v hv hes (x := .tmp 24) rfl; simp only [List.map_toArray, List.map_cons, List.map_nil, e0, e1, e8, e12, e14]; try rfl) (litfill (by simp [Instr.fill, Value.cells]; rfl) (by simp [List.range, List.range.loop] <;> rfl)) (by simp [Value.oneCell']) rfl (by decide) (by decide) (by decide)),zp rfl (op_assign_take _ _ _ _ rfl),zz⟩ ?_
  refine pt_then ?_
  refine zgg hn [_,(8,vs z0)] [0] [0,1] [zq [] 1 8] [(_,_),(_,_)] rfl ⟨z2 rfl,zz⟩ ?_
  refine ht_seq ?_
  refine zgg hn [_,_,(9,vi 0)] [0,1] [0,1,2] [zq [] 2 9] [(_,_),(_,_),(_,_)] rfl ⟨z2 rfl,zz⟩ ?_
  refine ht_loopS h (fun ((s36, s37) : ByteArray × Int) => [(7, .fl (.own 9) 1 (map Value.string ([v2, v4, (⟨#[83, 117, 98, 106, 101, 99, 116, 58, 32, 85, 110, 100, 101, 108, 105, 118, 101, 114, 101, 100, 32, 109, 97, 105, 108]⟩ : ByteArray), (⟨#[67, 111, 110, 116, 101, 110, 116, 45, 84, 121, 112, 101, 58, 32, 109, 117, 108, 116, 105, 112, 97, 114, 116, 47, 114, 101, 112, 111, 114, 116, 59, 32, 114, 101, 112, 111, 114, 116, 45, 116, 121, 112, 101, 61, 100, 101, 108, 105, 118, 101, 114, 121, 45, 115, 116, 97, 116, 117, 115, 59, 32, 98, 111, 117, 110, 100, 97, 114, 121, 61, 119]⟩ : ByteArray), (⟨#[]⟩ : ByteArray), (⟨#[45, 45, 119]⟩ : ByteArray), (⟨#[67, 111, 110, 116, 101, 110, 116, 45, 84, 121, 112, 101, 58, 32, 116, 101, 120, 116, 47, 112, 108, 97, 105, 110]⟩ : ByteArray), (⟨#[]⟩ : ByteArray), v7, (⟨#[45, 45, 119]⟩ : ByteArray), (⟨#[67, 111, 110, 116, 101, 110, 116, 45, 84, 121, 112, 101, 58, 32, 109, 101, 115, 115, 97, 103, 101, 47, 100, 101, 108, 105, 118, 101, 114, 121, 45, 115, 116, 97, 116, 117, 115]⟩ : ByteArray), (⟨#[]⟩ : ByteArray), v8, (⟨#[]⟩ : ByteArray), v10, (⟨#[65, 99, 116, 105, 111, 110, 58, 32, 102, 97, 105, 108, 101, 100]⟩ : ByteArray), (⟨#[83, 116, 97, 116, 117, 115, 58, 32, 52, 46, 52, 46, 55]⟩ : ByteArray), (⟨#[45, 45, 119, 45, 45]⟩ : ByteArray)]))), (8, .v (.string s36)), (9, .v (.int .i64 s37))]) (fun (s39 : ByteArray) => [(8, .v (.string s39))]) ?_ ?_
  ·rintro s39 h
   refine pt_then (ht_seq ?_)
   obtain ⟨v31, hv31, h⟩ := zn h
   refine zg hn [_,(39,vs s39),(40,.mkr 5 (map (int .u8) v31)),(6,.mkr 5 (map (int .u8) v31))] [0] [3] [zq [0] 1 39,zq [1] 2 40,⟨[],[2],[3],[(.slot 6)]⟩] [(_,_)] rfl ⟨z1 rfl,zp rfl ((Option.some.inj hv31) ▸ op_str_mk _ _ _ s39 underlying9 underlying25 underlying5 rfl),zp rfl (op_assign_take _ _ _ _ rfl),zz⟩ ?_
   refine pt_then (ht_ret ?_)
   obtain rfl := zi h
   exact pt_ret hio rfl (.tmp _ _ .nil) rfl rfl
  ·rintro u40 hl41 hr42 ⟨s36, s37⟩ rr45 h ho43
   refine ht_seq ?_
   refine zgg hn [_,_,_,(26,vi s37),(27,.same (.slot 7)),(28,vi (([v2,v4,(⟨#[83,117,98,106,101,99,116,58,32,85,110,100,101,108,105,118,101,114,101,100,32,109,97,105,108]⟩ : ByteArray),(⟨#[67,111,110,116,101,110,116,45,84,121,112,101,58,32,109,117,108,116,105,112,97,114,116,47,114,101,112,111,114,116,59,32,114,101,112,111,114,116,45,116,121,112,101,61,100,101,108,105,118,101,114,121,45,115,116,97,116,117,115,59,32,98,111,117,110,100,97,114,121,61,119]⟩ : ByteArray),z0,(⟨#[45,45,119]⟩ : ByteArray),(⟨#[67,111,110,116,101,110,116,45,84,121,112,101,58,32,116,101,120,116,47,112,108,97,105,110]⟩ : ByteArray),z0,v7,(⟨#[45,45,119]⟩ : ByteArray),(⟨#[67,111,110,116,101,110,116,45,84,121,112,101,58,32,109,101,115,115,97,103,101,47,100,101,108,105,118,101,114,121,45,115,116,97,116,117,115]⟩ : ByteArray),z0,v8,z0,v10,(⟨#[65,99,116,105,111,110,58,32,102,97,105,108,101,100]⟩ : ByteArray),(⟨#[83,116,97,116,117,115,58,32,52,46,52,46,55]⟩ : ByteArray),(⟨#[45,45,119,45,45]⟩ : ByteArray)]).length : Int)),(29,vb (decide (s37 < ((([v2,v4,(⟨#[83,117,98,106,101,99,116,58,32,85,110,100,101,108,105,118,101,114,101,100,32,109,97,105,108]⟩ : ByteArray),(⟨#[67,111,110,116,101,110,116,45,84,121,112,101,58,32,109,117,108,116,105,112,97,114,116,47,114,101,112,111,114,116,59,32,114,101,112,111,114,116,45,116,121,112,101,61,100,101,108,105,118,101,114,121,45,115,116,97,116,117,115,59,32,98,111,117,110,100,97,114,121,61,119]⟩ : ByteArray),z0,(⟨#[45,45,119]⟩ : ByteArray),(⟨#[67,111,110,116,101,110,116,45,84,121,112,101,58,32,116,101,120,116,47,112,108,97,105,110]⟩ : ByteArray),z0,v7,(⟨#[45,45,119]⟩ : ByteArray),(⟨#[67,111,110,116,101,110,116,45,84,121,112,101,58,32,109,101,115,115,97,103,101,47,100,101,108,105,118,101,114,121,45,115,116,97,116,117,115]⟩ : ByteArray),z0,v8,z0,v10,(⟨#[65,99,116,105,111,110,58,32,102,97,105,108,101,100]⟩ : ByteArray),(⟨#[83,116,97,116,117,115,58,32,52,46,52,46,55]⟩ : ByteArray),(⟨#[45,45,119,45,45]⟩ : ByteArray)]).length : Int)))))] [0,1,2] [0,1,2,6] [zq [2] 3 26,zq [0] 4 27,zq [4,0] 5 28,zq [3,5] 6 29] [(_,_),(_,_),(_,_),(_,_)] rfl ⟨z1 rfl,z1 rfl,zp rfl (op_len_fl _ _ _ underlying90 rfl (by decide) (map_len _)),z4 rfl rfl,zz⟩ ?_
   refine ht_cond _ rfl (fun hb46 => ?_) (fun hb46 => ?_)
   ·have h := cond_t hb46 h
    refine ht_skip ?_
    refine pt_then (ht_seq ?_)
    refine ht_block ?_
    obtain ⟨v12, hv12, h⟩ := zn h
    obtain ⟨v13, hv13, h⟩ := zn h
    obtain ⟨v14, hv14, h⟩ := zn h
    obtain ⟨v15, hv15, h⟩ := zn h
    refine zg hn [_,_,_,_,(32,vs s36),(33,.same (.slot 7)),(34,vi s37),(35,.eref (.slot 7) (v12 * 1)),(36,vs v13),(37,vs v14),(38,vs v15),(8,vs v15)] [0,1,2,3] [0,2,11] [zq [1] 4 32,zq [0] 5 33,zq [2] 6 34,zq [5,0,6] 7 35,zq [7,0] 8 36,zq [4,8] 9 37,zq [9] 10 38,⟨[10],[1],[11],[(.slot 8)]⟩] [(_,_),(_,_),(_,_)] rfl ⟨z1 rfl,z1 rfl,z1 rfl,zp rfl (op_ix _ _ _ _ _ _ _ _ underlying90 sz9 (by decide) rfl rfl rfl (ix_ok hv12).1 (map_lt (ix_ok hv12).2) rfl),zp rfl (op_load_e _ _ _ _ _ _ underlying9 rfl rfl rfl (map_get hv13)),zp rfl (oB rfl (cat_ok hv14)),zp rfl (oB rfl (cat_ok hv15)),zp rfl (LOp.drop [_] (op_assign _ _ _ _ rfl rfl)),zz⟩ ?_
    refine pt_inb ?_
    refine pt_then ?_
    obtain ⟨v16, hv16, h⟩ := zn h
    refine zg hn [_,_,_,(30,vi s37),(31,vi v16),(9,vi v16)] [0,1,2] [0,2,5] [zq [1] 3 30,zq [3] 4 31,⟨[4],[1],[5],[(.slot 9)]⟩] [(_,_),(_,_),(_,_)] rfl ⟨z1 rfl,zp rfl (oB rfl (ibind (f := int .i64) (Option.some.inj hv16))),zp rfl (LOp.drop [_] (op_assign _ _ _ _ rfl rfl)),zz⟩ ?_
    exact pt_next _ (zi h).symm rfl
   ·have h := cond_f hb46 h
    refine ht_exit ?_
    refine pt_x_then ?_
    refine pt_x_then ?_
    refine pt_x_in ?_
    refine pt_pick [1] (by kernel_rfl) (es' := [(_,_)]) rfl ?_
    exact hl41 _ (ho43 _ (zi h).symm).symm
end Go.Proofs.YtofbofdggabfiaaDoor
