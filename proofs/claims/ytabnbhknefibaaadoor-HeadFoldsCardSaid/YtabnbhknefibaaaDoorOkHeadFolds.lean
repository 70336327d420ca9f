/-
  The model's runs are what is told in Lean.
-/
import Derived.Test.YtabnbhknefibaaaDoorProg
import Derived.KernelRfl
import Derived.Test.YtabnbhknefibaaaDoorShelf
import Derived.Test.YtabnbhknefibaaaDoorIdx
import Derived.Test.YtabnbhknefibaaaDoorOkc2
set_option linter.unusedVariables false
set_option linter.unusedSimpArgs false
set_option maxHeartbeats 1000000
namespace Go.Proofs.YtabnbhknefibaaaDoor
open Go.Abs Go.Abs.Sh Tryd

theorem ok_wherrylaw15_HeadFolds (mx : Int) (more : (List ByteArray)) (rest : (List Int)) (r : Bool) (h : Sh.wherrylaw15_HeadFolds more rest = some r) : FnG Tryd.prog (GL mx) 6 [.fl .shr 1 (List.map Value.string more), .fl .shr 1 (List.map (Value.int .u8) rest)] (.v (.bool r)) := by
  unfold Sh.wherrylaw15_HeadFolds at h
  refine fn_okG func6 rfl (zl rfl) rfl rfl fun g0 hn hio => ?_
  refine zgg hn [_,_,_,(4,vb false)] [0,1,2] [0,1,2] [zq [] 3 4] [(_,_),(_,_),(_,_)] rfl ⟨z2 rfl,zz⟩ ?_
  refine ht_seq ?_
  refine ht_seq ?_
  refine ht_joinS h (fun (s22 : Bool) => [(0, .fl .shr 1 (List.map Value.string more)), (1, .fl .shr 1 (List.map (Value.int .u8) rest)), (91, .glob (GL mx)), (24, .v (.bool s22))]) ?_ ?_
  ·rintro s22 h
   refine pt_then ?_
   refine ht_cond _ rfl (fun hb26 => ?_) (fun hb26 => ?_)
   ·have h := cond_t hb26 h
    refine zgg hn [_,_,_,_,(4,vb true)] [0,1,2,3] [2,4] [zq [] 4 4] [(_,_),(_,_)] rfl ⟨z2 rfl,zz⟩ ?_
    refine ht_ret ?_
    refine pt_pick [1] (by kernel_rfl) (es' := [(_,_)]) rfl ?_
    refine pt_r_then ?_
    obtain rfl := Option.some.inj h
    exact pt_ret hio rfl (.tmp _ _ .nil) rfl rfl
   ·have h := cond_f hb26 h
    refine ht_skip ?_
    refine pt_then ?_
    refine zgg hn [_,_,_,_,(25,.fl (.own 5) 1 (List.map (Value.int .u8) [83,117,98,106,101,99,116,58,32,97,13,10])),(26,.mkr 5 (List.map (Value.int .u8) [83,117,98,106,101,99,116,58,32,97,13,10])),(5,.mkr 5 (List.map (Value.int .u8) [83,117,98,106,101,99,116,58,32,97,13,10]))] [0,1,2,3] [0,1,2,6] [zq [] 4 25,⟨[],[4],[5],[(.slot 26)]⟩,⟨[],[5],[6],[(.slot 5)]⟩] [(_,_),(_,_),(_,_),(_,_)] rfl ⟨zp rfl (op_buildSlice _ _ 1 (.int .u8 0) (List.map (Value.int .u8) [83, 117, 98, 106, 101, 99, 116, 58, 32, 97, 13, 10]) [(0, .int .u8 83), (1, .int .u8 117), (2, .int .u8 98), (3, .int .u8 106), (4, .int .u8 101), (5, .int .u8 99), (6, .int .u8 116), (7, .int .u8 58), (8, .int .u8 32), (9, .int .u8 97), (10, .int .u8 13), (11, .int .u8 10)] underlying22 sz5 zr5 (fun _ V w o a hv hes => by simp only [List.map_toArray, List.map_cons, List.map_nil]; try rfl) (litfill (by simp [Instr.fill, Value.cells]; rfl) (by simp [List.range, List.range.loop] <;> rfl)) (by simp [Value.oneCell']) rfl (by decide) (by decide) (by decide)),zp rfl (op_conv_mk _ _ _ underlying22 underlying5 (by intro h; cases h)),zp rfl (op_assign_take _ _ _ _ rfl),zz⟩ ?_
    refine zgg hn [_,_,_,_,(6,vs (⟨#[32,97]⟩ : ByteArray))] [0,1,2,3] [0,1,2,3,4] [zq [] 4 6] [(_,_),(_,_),(_,_),(_,_),(_,_)] rfl ⟨z2 rfl,zz⟩ ?_
    refine ht_seq ?_
    refine zgg hn [_,_,_,_,_,(7,vi 0)] [0,1,2,3,4] [0,1,2,3,4,5] [zq [] 5 7] [(_,_),(_,_),(_,_),(_,_),(_,_),(_,_)] rfl ⟨z2 rfl,zz⟩ ?_
    refine ht_loopS h (fun ((s48, s49, s50) : (List Int) × ByteArray × Int) => [(0, .fl .shr 1 (List.map Value.string more)), (1, .fl .shr 1 (List.map (Value.int .u8) rest)), (91, .glob (GL mx)), (5, .mkr 5 (List.map (Value.int .u8) s48)), (6, .v (.string s49)), (7, .v (.int .i64 s50))]) (fun ((s57, s58) : (List Int) × ByteArray) => [(1, .fl .shr 1 (List.map (Value.int .u8) rest)), (91, .glob (GL mx)), (5, .mkr 5 (List.map (Value.int .u8) s57)), (6, .v (.string s58))]) ?_ ?_
    ·rintro ⟨s57, s58⟩ h
     refine pt_then ?_
     refine zgg hn [_,_,_,_,(62,.same (.slot 5)),(63,vi (s57.length : Int)),(8,vi (s57.length : Int))] [0,1,2,3] [0,1,2,3,6] [zq [2] 4 62,zq [4,2] 5 63,zq [5] 6 8] [(_,_),(_,_),(_,_),(_,_),(_,_)] rfl ⟨z1 rfl,zp rfl (op_len_mk _ _ _ underlying22 rfl (List.length_map _)),z2 rfl,zz⟩ ?_
     refine ht_seq ?_
     obtain ⟨v71, hv71, h⟩ := bind_some h
     obtain ⟨v72, hv72, h⟩ := bind_some h
     refine zg hn [_,_,_,_,_,(64,.mkr 5 (List.map (Value.int .u8) s57)),(65,.mkr 5 (List.map (Value.int .u8) v71)),(64,.any),(66,.fl .shr 1 (List.map (Value.int .u8) rest)),(67,.mkr 5 (List.map (Value.int .u8) v72)),(65,.any),(5,.mkr 5 (List.map (Value.int .u8) v72))] [0,1,2,3,4] [1,3,4,11] [⟨[],[2],[5],[(.slot 64)]⟩,⟨[],[5],[7,6],[(.slot 65)]⟩,zq [0] 8 66,⟨[8],[6],[10,9],[(.slot 67)]⟩,⟨[],[9],[11],[(.slot 5)]⟩] [(_,_),(_,_),(_,_),(_,_)] rfl ⟨zp rfl (op_move_take _ _ _ _ rfl),zp rfl (op_apps_mk _ _ _ _ _ el22 underlying9 rfl rfl rfl hv71 rfl),z1 rfl,zp rfl (op_app_mk _ _ _ _ _ el22 rfl rfl rfl rfl hv72 rfl),zp rfl (op_assign_take _ _ _ _ rfl),zz⟩ ?_
     refine pt_then (ht_seq ?_)
     obtain ⟨v73, hv73, h⟩ := bind_some h
     refine zg hn [_,_,_,_,(69,.mkr 5 (List.map (Value.int .u8) v72)),(70,.tup [.fl (.own 44) 2 (List.flatten (List.map T_Field.enc v73.1)),vi v73.2.1,vi v73.2.2]),(68,.tup [.fl (.own 44) 2 (List.flatten (List.map T_Field.enc v73.1)),vi v73.2.1,vi v73.2.2]),(71,.fl (.own 44) 2 (List.flatten (List.map T_Field.enc v73.1))),(68,.tup [.any,vi v73.2.1,vi v73.2.2]),(72,vi v73.2.1),(73,vi v73.2.2),(9,.fl (.own 44) 2 (List.flatten (List.map T_Field.enc v73.1))),(10,vi v73.2.1),(11,vi v73.2.2)] [0,1,2,3] [0,1,2,11,12,13] [⟨[],[3],[4],[(.slot 69)]⟩,zq [4,0] 5 70,⟨[],[5],[6],[(.slot 68)]⟩,⟨[],[6],[8,7],[(.slot 71)]⟩,zq [8] 9 72,zq [8] 10 73,⟨[],[7],[11],[(.slot 9)]⟩,zq [9] 12 10,zq [10] 13 11] [(_,_),(_,_),(_,_),(_,_),(_,_),(_,_)] rfl ⟨zp rfl (op_move_take _ _ _ _ rfl),zp rfl (op_callG _ _ 91 10 _ _ rfl call10 rfl rfl (fun _ h => h) (ok_head_Scan mx v72 _ hv73) rfl rfl),zp rfl (op_move_take _ _ _ _ rfl),zp rfl (op_extract_take _ _ _ _ _ rfl (zl rfl) rfl rfl (by decide) rfl),zp rfl (oE rfl),zp rfl (oE rfl),zp rfl (op_assign_take _ _ _ _ rfl),z2 rfl,z2 rfl,zz⟩ ?_
     refine pt_then (ht_seq ?_)
     refine ht_joinS h (fun (s76 : Bool) => [(91, .glob (GL mx)), (4, .v (.bool s76))]) ?_ ?_
     ·rintro s76 h
      refine pt_then (ht_ret ?_)
      refine pt_pick [1] (by kernel_rfl) (es' := [(_,_)]) rfl ?_
      obtain rfl := Option.some.inj h
      exact pt_ret hio rfl (.tmp _ _ .nil) rfl rfl
     ·intro u77 h hl78 hr79
      refine cond_some h (fun hg15_2 h => ?_) (fun hg15_2 h => ?_)
      ·refine cond_some h (fun hg15_7 h => ?_) (fun hg15_7 h => ?_)
       ·obtain ⟨v74, hv74, h⟩ := bind_some h
        refine cond_some h (fun hg15_14 h => ?_) (fun hg15_14 h => ?_)
        ·obtain ⟨v75, hv75, h⟩ := bind_some h
         refine zg hn (_::_::_::_::_::_::(74,vi v73.2.2)::(75,vb (v73.2.2 == 0))::(76,vb true)::(77,vi v73.2.1)::(78,vi (s57.length : Int))::(79,vb (v73.2.1 == (s57.length : Int)))::(80,vb (v73.2.1 == (s57.length : Int)))::(81,vb true)::(82,.fl (.own 44) 2 (List.flatten (List.map T_Field.enc v73.1)))::(83,vs s58)::(84,.agg [vs (⟨#[83,117,98,106,101,99,116]⟩ : ByteArray),vs s58])::(85,.fl (.own 44) 2 (List.flatten (List.map T_Field.enc ([(T_Field.mk (⟨#[83,117,98,106,101,99,116]⟩ : ByteArray) s58)]))))::(86,vb v74)::(87,vb v74)::(88,vb true)::(89,vb v75)::(90,vb v75)::(4,vb v75)::[]) [0,1,2,3,4,5] [0,23] (zq [5] 6 74::zq [6] 7 75::zq [7] 8 76::zq [8,4] 9 77::zq [8,2] 10 78::zq [8,9,10] 11 79::zq [8,11] 12 80::zq [12] 13 81::⟨[13],[3],[14],[(.slot 82)]⟩::zq [13,1] 15 83::zq [13,15] 16 84::zq [13,16] 17 85::zq [13,14,17] 18 86::zq [13,18] 19 87::zq [19] 20 88::zq [20,0] 21 89::zq [20,21] 22 90::zq [22] 23 4::[]) [(_,_),(_,_)] rfl ⟨z1 rfl,z4 rfl rfl,z8 hg15_2 rfl,zr' rfl (oM rfl),zr' rfl (oM rfl),zr' rfl (oB rfl rfl),z3 true rfl,z8 hg15_7 rfl,zr' rfl (op_move_take _ _ _ _ rfl),zr' rfl (oM rfl),zr' rfl (op_build _ _ _ _ [1, 1] _ _ underlying44 zr44 (fs44 _ underlying44) (.copy _ (.copy _ Src.nil)) rfl rfl rfl),zr' rfl (op_buildSlice _ _ 2 (.agg #[.string ByteArray.empty, .string ByteArray.empty]) (List.flatten (List.map T_Field.enc ([(T_Field.mk (⟨#[83, 117, 98, 106, 101, 99, 116]⟩ : ByteArray) s58)]))) [(0, .agg #[.string (⟨#[83, 117, 98, 106, 101, 99, 116]⟩ : ByteArray), .string s58])] underlying24 sz44 zr44 (fun _ V w o a hv hes => by have e0 := agg_v (ys := [.string (⟨#[83, 117, 98, 106, 101, 99, 116]⟩ : ByteArray), .string s58]) hv hes (x := .tmp 84) rfl; simp only [List.map_toArray, List.map_cons, List.map_nil, e0]; try rfl) (litfill (by simp [Instr.fill, Value.cells]; rfl) (by simp [List.range, List.range.loop, T_Field.enc] <;> rfl)) (by simp [Value.oneCell', T_Field.enc]) rfl (by decide) (by decide) (by decide)),zr' rfl (op_call _ _ 20 _ _ rfl call20 rfl (ok_wherrykeep_Fields v73.1 ([(T_Field.mk (⟨#[83, 117, 98, 106, 101, 99, 116]⟩ : ByteArray) s58)]) _ hv74) rfl rfl),z3 true rfl,z8 hg15_14 rfl,zr' rfl (op_callG _ _ 91 18 _ _ rfl call18 rfl rfl (fun _ h => h) (ok_wherrylaw15_wakes mx  _ hv75) rfl rfl),z3 true rfl,z2 rfl,zz⟩ ?_
         exact hl78 _ (Option.some.inj h).symm
        ·refine zg hn (_::_::_::_::_::_::(74,vi v73.2.2)::(75,vb (v73.2.2 == 0))::(76,vb true)::(77,vi v73.2.1)::(78,vi (s57.length : Int))::(79,vb (v73.2.1 == (s57.length : Int)))::(80,vb (v73.2.1 == (s57.length : Int)))::(81,vb true)::(82,.fl (.own 44) 2 (List.flatten (List.map T_Field.enc v73.1)))::(83,vs s58)::(84,.agg [vs (⟨#[83,117,98,106,101,99,116]⟩ : ByteArray),vs s58])::(85,.fl (.own 44) 2 (List.flatten (List.map T_Field.enc ([(T_Field.mk (⟨#[83,117,98,106,101,99,116]⟩ : ByteArray) s58)]))))::(86,vb v74)::(87,vb v74)::(88,vb false)::(89,.v undef)::(90,vb false)::(4,vb false)::[]) [0,1,2,3,4,5] [0,23] (zq [5] 6 74::zq [6] 7 75::zq [7] 8 76::zq [8,4] 9 77::zq [8,2] 10 78::zq [8,9,10] 11 79::zq [8,11] 12 80::zq [12] 13 81::⟨[13],[3],[14],[(.slot 82)]⟩::zq [13,1] 15 83::zq [13,15] 16 84::zq [13,16] 17 85::zq [13,14,17] 18 86::zq [13,18] 19 87::zq [19] 20 88::zq [20] 21 89::zq [20] 22 90::zq [22] 23 4::[]) [(_,_),(_,_)] rfl ⟨z1 rfl,z4 rfl rfl,z8 hg15_2 rfl,zr' rfl (oM rfl),zr' rfl (oM rfl),zr' rfl (oB rfl rfl),z3 true rfl,z8 hg15_7 rfl,zr' rfl (op_move_take _ _ _ _ rfl),zr' rfl (oM rfl),zr' rfl (op_build _ _ _ _ [1, 1] _ _ underlying44 zr44 (fs44 _ underlying44) (.copy _ (.copy _ Src.nil)) rfl rfl rfl),zr' rfl (op_buildSlice _ _ 2 (.agg #[.string ByteArray.empty, .string ByteArray.empty]) (List.flatten (List.map T_Field.enc ([(T_Field.mk (⟨#[83, 117, 98, 106, 101, 99, 116]⟩ : ByteArray) s58)]))) [(0, .agg #[.string (⟨#[83, 117, 98, 106, 101, 99, 116]⟩ : ByteArray), .string s58])] underlying24 sz44 zr44 (fun _ V w o a hv hes => by have e0 := agg_v (ys := [.string (⟨#[83, 117, 98, 106, 101, 99, 116]⟩ : ByteArray), .string s58]) hv hes (x := .tmp 84) rfl; simp only [List.map_toArray, List.map_cons, List.map_nil, e0]; try rfl) (litfill (by simp [Instr.fill, Value.cells]; rfl) (by simp [List.range, List.range.loop, T_Field.enc] <;> rfl)) (by simp [Value.oneCell', T_Field.enc]) rfl (by decide) (by decide) (by decide)),zr' rfl (op_call _ _ 20 _ _ rfl call20 rfl (ok_wherrykeep_Fields v73.1 ([(T_Field.mk (⟨#[83, 117, 98, 106, 101, 99, 116]⟩ : ByteArray) s58)]) _ hv74) rfl rfl),z3 true rfl,z8 hg15_14 rfl,zt rfl,z3 false rfl,z2 rfl,zz⟩ ?_
         exact hl78 _ (Option.some.inj h).symm
       ·refine zg hn (_::_::_::_::_::_::(74,vi v73.2.2)::(75,vb (v73.2.2 == 0))::(76,vb true)::(77,vi v73.2.1)::(78,vi (s57.length : Int))::(79,vb (v73.2.1 == (s57.length : Int)))::(80,vb (v73.2.1 == (s57.length : Int)))::(81,vb false)::(82,.v undef)::(83,.v undef)::(84,.v undef)::(85,.v undef)::(86,.v undef)::(87,vb false)::(88,vb false)::(89,.v undef)::(90,vb false)::(4,vb false)::[]) [0,1,2,3,4,5] [0,23] (zq [5] 6 74::zq [6] 7 75::zq [7] 8 76::zq [8,4] 9 77::zq [8,2] 10 78::zq [8,9,10] 11 79::zq [8,11] 12 80::zq [12] 13 81::zq [13] 14 82::zq [13] 15 83::zq [13] 16 84::zq [13] 17 85::zq [13] 18 86::zq [13] 19 87::zq [19] 20 88::zq [20] 21 89::zq [20] 22 90::zq [22] 23 4::[]) [(_,_),(_,_)] rfl ⟨z1 rfl,z4 rfl rfl,z8 hg15_2 rfl,zr' rfl (oM rfl),zr' rfl (oM rfl),zr' rfl (oB rfl rfl),z3 true rfl,z8 hg15_7 rfl,zt rfl,zt rfl,zt rfl,zt rfl,zt rfl,z3 false rfl,z1 rfl,zt rfl,z3 false rfl,z2 rfl,zz⟩ ?_
        exact hl78 _ (Option.some.inj h).symm
      ·refine zg hn (_::_::_::_::_::_::(74,vi v73.2.2)::(75,vb (v73.2.2 == 0))::(76,vb false)::(77,.v undef)::(78,.v undef)::(79,.v undef)::(80,vb false)::(81,vb false)::(82,.v undef)::(83,.v undef)::(84,.v undef)::(85,.v undef)::(86,.v undef)::(87,vb false)::(88,vb false)::(89,.v undef)::(90,vb false)::(4,vb false)::[]) [0,1,2,3,4,5] [0,23] (zq [5] 6 74::zq [6] 7 75::zq [7] 8 76::zq [8] 9 77::zq [8] 10 78::zq [8] 11 79::zq [8] 12 80::zq [12] 13 81::zq [13] 14 82::zq [13] 15 83::zq [13] 16 84::zq [13] 17 85::zq [13] 18 86::zq [13] 19 87::zq [19] 20 88::zq [20] 21 89::zq [20] 22 90::zq [22] 23 4::[]) [(_,_),(_,_)] rfl ⟨z1 rfl,z4 rfl rfl,z8 hg15_2 rfl,zt rfl,zt rfl,zt rfl,z3 false rfl,z1 rfl,zt rfl,zt rfl,zt rfl,zt rfl,zt rfl,z3 false rfl,z1 rfl,zt rfl,z3 false rfl,z2 rfl,zz⟩ ?_
       exact hl78 _ (Option.some.inj h).symm
    ·rintro u59 hl60 hr61 ⟨s48, s49, s50⟩ rr64 h ho62
     refine ht_seq ?_
     refine zgg hn [_,_,_,_,_,_,(27,vi s50),(28,.fl .shr 1 (List.map Value.string more)),(29,vi (more.length : Int)),(30,vb (decide (s50 < (more.length : Int))))] [0,1,2,3,4,5] [0,1,2,3,4,5,9] [zq [5] 6 27,zq [0] 7 28,zq [7] 8 29,zq [6,8] 9 30] [(_,_),(_,_),(_,_),(_,_),(_,_),(_,_),(_,_)] rfl ⟨z1 rfl,z1 rfl,zp rfl (op_len_fl _ _ _ underlying45 rfl (by decide) (map_len _)),z4 rfl rfl,zz⟩ ?_
     refine ht_cond _ rfl (fun hb65 => ?_) (fun hb65 => ?_)
     ·have h := cond_t hb65 h
      refine ht_skip ?_
      refine pt_then (ht_seq ?_)
      refine ht_block ?_
      refine ht_seq ?_
      refine ht_seq ?_
      refine ht_joinS h (fun (s66 : Bool) => [(0, .fl .shr 1 (List.map Value.string more)), (1, .fl .shr 1 (List.map (Value.int .u8) rest)), (91, .glob (GL mx)), (5, .mkr 5 (List.map (Value.int .u8) s48)), (6, .v (.string s49)), (7, .v (.int .i64 s50)), (46, .v (.bool s66))]) ?_ ?_
      ·rintro s66 h
       refine pt_then ?_
       refine ht_cond _ rfl (fun hb70 => ?_) (fun hb70 => ?_)
       ·have h := cond_t hb70 h
        refine zgg hn [_,_,_,_,_,_,_,(4,vb true)] [0,1,2,3,4,5,6] [2,7] [zq [] 7 4] [(_,_),(_,_)] rfl ⟨z2 rfl,zz⟩ ?_
        refine ht_ret ?_
        refine pt_pick [1] (by kernel_rfl) (es' := [(_,_)]) rfl ?_
        refine pt_r_then ?_
        refine pt_r_in ?_
        refine pt_r_then ?_
        refine pt_r_then ?_
        refine pt_r_in ?_
        refine pt_r_then ?_
        have h := hr61 _ (ho62 _ (Option.some.inj h).symm).symm
        obtain rfl := Option.some.inj h
        exact pt_ret hio rfl (.tmp _ _ .nil) rfl rfl
       ·have h := cond_f hb70 h
        refine ht_skip ?_
        refine pt_then (ht_seq ?_)
        obtain ⟨v18, hv18, h⟩ := bind_some h
        obtain ⟨v19, hv19, h⟩ := bind_some h
        obtain ⟨v20, hv20, h⟩ := bind_some h
        obtain ⟨v21, hv21, h⟩ := bind_some h
        obtain ⟨v33, hv33, h⟩ := bind_some h
        refine zg hn (_::_::_::_::_::_::_::(47,.mkr 5 (List.map (Value.int .u8) s48))::(48,.fl .shr 1 (List.map Value.string more))::(49,vi s50)::(50,.eref (.slot 48) (v18 * 1))::(51,vs v19)::(52,vs v20)::(53,vs v21)::(54,.mkr 5 (List.map (Value.int .u8) v33))::(47,.any)::(5,.mkr 5 (List.map (Value.int .u8) v33))::[]) [0,1,2,3,4,5,6] [0,1,2,4,5,16] [⟨[],[3],[7],[(.slot 47)]⟩,zq [0] 8 48,zq [5] 9 49,zq [8,9] 10 50,zq [10,8] 11 51,zq [11] 12 52,zq [12] 13 53,⟨[13],[7],[15,14],[(.slot 54)]⟩,⟨[],[14],[16],[(.slot 5)]⟩] [(_,_),(_,_),(_,_),(_,_),(_,_),(_,_)] rfl ⟨zp rfl (op_move_take _ _ _ _ rfl),z1 rfl,z1 rfl,zp rfl (op_ix _ _ _ _ _ _ _ _ underlying45 sz9 (by decide) rfl rfl rfl (ix_ok hv18).1 (map_lt (ix_ok hv18).2) rfl),zp rfl (op_load_e _ _ _ _ _ _ underlying9 rfl rfl rfl (map_get hv19)),zp rfl (oB rfl (cat_ok hv20)),zp rfl (oB rfl (cat_ok hv21)),zp rfl (op_apps_mk _ _ _ _ _ el22 underlying9 rfl rfl rfl hv33 rfl),zp rfl (op_assign_take _ _ _ _ rfl),zz⟩ ?_
        refine pt_then ?_
        obtain ⟨v34, hv34, h⟩ := bind_some h
        obtain ⟨v35, hv35, h⟩ := bind_some h
        obtain ⟨v36, hv36, h⟩ := bind_some h
        obtain ⟨v37, hv37, h⟩ := bind_some h
        refine zg hn [_,_,_,_,_,_,(55,vs s49),(56,vs v34),(57,.fl .shr 1 (List.map Value.string more)),(58,vi s50),(59,.eref (.slot 57) (v35 * 1)),(60,vs v36),(61,vs v37),(6,vs v37)] [0,1,2,3,4,5] [0,1,2,4,5,13] [zq [3] 6 55,zq [6] 7 56,zq [0] 8 57,zq [4] 9 58,zq [8,9] 10 59,zq [10,8] 11 60,zq [7,11] 12 61,⟨[12],[3],[13],[(.slot 6)]⟩] [(_,_),(_,_),(_,_),(_,_),(_,_),(_,_)] rfl ⟨z1 rfl,zp rfl (oB rfl (cat_ok hv34)),z1 rfl,z1 rfl,zp rfl (op_ix _ _ _ _ _ _ _ _ underlying45 sz9 (by decide) rfl rfl rfl (ix_ok hv35).1 (map_lt (ix_ok hv35).2) rfl),zp rfl (op_load_e _ _ _ _ _ _ underlying9 rfl rfl rfl (map_get hv36)),zp rfl (oB rfl (cat_ok hv37)),zp rfl (LOp.drop [_] (op_assign _ _ _ _ rfl rfl)),zz⟩ ?_
        refine pt_inb ?_
        refine pt_then ?_
        obtain ⟨v38, hv38, h⟩ := bind_some h
        refine zg hn [_,_,_,_,_,_,(31,vi s50),(32,vi v38),(7,vi v38)] [0,1,2,3,4,5] [0,1,2,4,5,8] [zq [3] 6 31,zq [6] 7 32,⟨[7],[3],[8],[(.slot 7)]⟩] [(_,_),(_,_),(_,_),(_,_),(_,_),(_,_)] rfl ⟨z1 rfl,zp rfl (oB rfl (ibind (f := Value.int .i64) (Option.some.inj hv38))),zp rfl (LOp.drop [_] (op_assign _ _ _ _ rfl rfl)),zz⟩ ?_
        exact pt_next _ (Option.some.inj h).symm rfl
      ·intro u67 h hl68 hr69
       obtain ⟨v8, hv8, h⟩ := bind_some h
       obtain ⟨v9, hv9, h⟩ := bind_some h
       refine cond_some h (fun hg8_6 h => ?_) (fun hg8_6 h => ?_)
       ·refine zg hn (_::_::_::_::_::_::_::(33,.fl .shr 1 (List.map Value.string more))::(34,vi s50)::(35,.eref (.slot 33) (v8 * 1))::(36,vs v9)::(37,vi (v9.size : Int))::(38,vb (decide (60 < (v9.size : Int))))::(39,vb true)::(40,.v undef)::(41,.v undef)::(42,.v undef)::(43,.v undef)::(44,.v undef)::(45,.v undef)::(46,vb true)::[]) [0,1,2,3,4,5,6] [0,1,2,3,4,5,20] [zq [0] 7 33,zq [5] 8 34,zq [7,8] 9 35,zq [9,7] 10 36,zq [10] 11 37,zq [11] 12 38,zq [12] 13 39,zq [13] 14 40,zq [13] 15 41,zq [13] 16 42,zq [13] 17 43,zq [13] 18 44,zq [13] 19 45,zq [13] 20 46] [(_,_),(_,_),(_,_),(_,_),(_,_),(_,_),(_,_)] rfl ⟨z1 rfl,z1 rfl,zp rfl (op_ix _ _ _ _ _ _ _ _ underlying45 sz9 (by decide) rfl rfl rfl (ix_ok hv8).1 (map_lt (ix_ok hv8).2) rfl),zp rfl (op_load_e _ _ _ _ _ _ underlying9 rfl rfl rfl (map_get hv9)),zp rfl (oN underlying9 rfl),z4 rfl rfl,z8 hg8_6 rfl,zf rfl,zf rfl,zf rfl,zf rfl,zf rfl,zf rfl,z3 true rfl,zz⟩ ?_
        exact hl68 _ (Option.some.inj h).symm
       ·obtain ⟨v10, hv10, h⟩ := bind_some h
        obtain ⟨v11, hv11, h⟩ := bind_some h
        obtain ⟨v12, hv12, h⟩ := bind_some h
        refine zg hn (_::_::_::_::_::_::_::(33,.fl .shr 1 (List.map Value.string more))::(34,vi s50)::(35,.eref (.slot 33) (v8 * 1))::(36,vs v9)::(37,vi (v9.size : Int))::(38,vb (decide (60 < (v9.size : Int))))::(39,vb false)::(40,.fl .shr 1 (List.map Value.string more))::(41,vi s50)::(42,.eref (.slot 40) (v10 * 1))::(43,vs v11)::(44,vb v12)::(45,vb (!v12))::(46,vb (!v12))::[]) [0,1,2,3,4,5,6] [0,1,2,3,4,5,20] [zq [0] 7 33,zq [5] 8 34,zq [7,8] 9 35,zq [9,7] 10 36,zq [10] 11 37,zq [11] 12 38,zq [12] 13 39,zq [13,0] 14 40,zq [13,5] 15 41,zq [13,14,15] 16 42,zq [13,16,14] 17 43,zq [13,17] 18 44,zq [13,18] 19 45,zq [13,19] 20 46] [(_,_),(_,_),(_,_),(_,_),(_,_),(_,_),(_,_)] rfl ⟨z1 rfl,z1 rfl,zp rfl (op_ix _ _ _ _ _ _ _ _ underlying45 sz9 (by decide) rfl rfl rfl (ix_ok hv8).1 (map_lt (ix_ok hv8).2) rfl),zp rfl (op_load_e _ _ _ _ _ _ underlying9 rfl rfl rfl (map_get hv9)),zp rfl (oN underlying9 rfl),z4 rfl rfl,z8 hg8_6 rfl,zr' rfl (oM rfl),zr' rfl (oM rfl),zr' rfl (op_ix _ _ _ _ _ _ _ _ underlying45 sz9 (by decide) rfl rfl rfl (ix_ok hv10).1 (map_lt (ix_ok hv10).2) rfl),zr' rfl (op_load_e _ _ _ _ _ _ underlying9 rfl rfl rfl (map_get hv11)),zr' rfl (op_call _ _ 23 _ _ rfl call23 rfl (ok_wherrylaw15_plain v11 _ hv12) rfl rfl),zr' rfl (op_un _ _ _ _ rfl rfl),z3 false rfl,zz⟩ ?_
        exact hl68 _ (Option.some.inj h).symm
     ·have h := cond_f hb65 h
      refine ht_exit ?_
      refine pt_x_then ?_
      refine pt_x_then ?_
      refine pt_x_in ?_
      refine pt_pick [1, 2, 3, 4] (by kernel_rfl) (es' := [(_,_),(_,_),(_,_),(_,_)]) rfl ?_
      exact hl60 _ (ho62 _ (Option.some.inj h).symm).symm
  ·intro u23 h hl24 hr25
   refine cond_some h (fun hg1_3 h => ?_) (fun hg1_3 h => ?_)
   ·refine zg hn (_::_::_::(12,.fl .shr 1 (List.map Value.string more))::(13,vi (more.length : Int))::(14,vb (decide (10 < (more.length : Int))))::(15,vb true)::(16,.v undef)::(17,.v undef)::(18,.v undef)::(19,vb true)::(20,vb true)::(21,.v undef)::(22,.v undef)::(23,.v undef)::(24,vb true)::[]) [0,1,2] [0,1,2,15] [zq [0] 3 12,zq [3] 4 13,zq [4] 5 14,zq [5] 6 15,zq [6] 7 16,zq [6] 8 17,zq [6] 9 18,zq [6] 10 19,zq [10] 11 20,zq [11] 12 21,zq [11] 13 22,zq [11] 14 23,zq [11] 15 24] [(_,_),(_,_),(_,_),(_,_)] rfl ⟨z1 rfl,zp rfl (op_len_fl _ _ _ underlying45 rfl (by decide) (map_len _)),z4 rfl rfl,z8 hg1_3 rfl,zf rfl,zf rfl,zf rfl,z3 true rfl,z1 rfl,zf rfl,zf rfl,zf rfl,z3 true rfl,zz⟩ ?_
    exact hl24 _ (Option.some.inj h).symm
   ·refine cond_some h (fun hg1_8 h => ?_) (fun hg1_8 h => ?_)
    ·refine zg hn (_::_::_::(12,.fl .shr 1 (List.map Value.string more))::(13,vi (more.length : Int))::(14,vb (decide (10 < (more.length : Int))))::(15,vb false)::(16,.fl .shr 1 (List.map (Value.int .u8) rest))::(17,vi (rest.length : Int))::(18,vb (decide (2000 < (rest.length : Int))))::(19,vb (decide (2000 < (rest.length : Int))))::(20,vb true)::(21,.v undef)::(22,.v undef)::(23,.v undef)::(24,vb true)::[]) [0,1,2] [0,1,2,15] [zq [0] 3 12,zq [3] 4 13,zq [4] 5 14,zq [5] 6 15,zq [6,1] 7 16,zq [6,7] 8 17,zq [6,8] 9 18,zq [6,9] 10 19,zq [10] 11 20,zq [11] 12 21,zq [11] 13 22,zq [11] 14 23,zq [11] 15 24] [(_,_),(_,_),(_,_),(_,_)] rfl ⟨z1 rfl,zp rfl (op_len_fl _ _ _ underlying45 rfl (by decide) (map_len _)),z4 rfl rfl,z8 hg1_3 rfl,zr' rfl (oM rfl),zr' rfl (op_len_fl _ _ _ underlying22 rfl (by decide) (map_len _)),zr' rfl (oB rfl rfl),z3 false rfl,z8 hg1_8 rfl,zf rfl,zf rfl,zf rfl,z3 true rfl,zz⟩ ?_
     exact hl24 _ (Option.some.inj h).symm
    ·obtain ⟨v1, hv1, h⟩ := bind_some h
     refine zg hn (_::_::_::(12,.fl .shr 1 (List.map Value.string more))::(13,vi (more.length : Int))::(14,vb (decide (10 < (more.length : Int))))::(15,vb false)::(16,.fl .shr 1 (List.map (Value.int .u8) rest))::(17,vi (rest.length : Int))::(18,vb (decide (2000 < (rest.length : Int))))::(19,vb (decide (2000 < (rest.length : Int))))::(20,vb false)::(21,.fl .shr 1 (List.map (Value.int .u8) rest))::(22,vb v1)::(23,vb (!v1))::(24,vb (!v1))::[]) [0,1,2] [0,1,2,15] [zq [0] 3 12,zq [3] 4 13,zq [4] 5 14,zq [5] 6 15,zq [6,1] 7 16,zq [6,7] 8 17,zq [6,8] 9 18,zq [6,9] 10 19,zq [10] 11 20,zq [11,1] 12 21,zq [11,12] 13 22,zq [11,13] 14 23,zq [11,14] 15 24] [(_,_),(_,_),(_,_),(_,_)] rfl ⟨z1 rfl,zp rfl (op_len_fl _ _ _ underlying45 rfl (by decide) (map_len _)),z4 rfl rfl,z8 hg1_3 rfl,zr' rfl (oM rfl),zr' rfl (op_len_fl _ _ _ underlying22 rfl (by decide) (map_len _)),zr' rfl (oB rfl rfl),z3 false rfl,z8 hg1_8 rfl,zr' rfl (oM rfl),zr' rfl (op_call _ _ 17 _ _ rfl call17 rfl (ok_wherryref11_Body rest _ hv1) rfl rfl),zr' rfl (op_un _ _ _ _ rfl rfl),z3 false rfl,zz⟩ ?_
     exact hl24 _ (Option.some.inj h).symm

end Go.Proofs.YtabnbhknefibaaaDoor
