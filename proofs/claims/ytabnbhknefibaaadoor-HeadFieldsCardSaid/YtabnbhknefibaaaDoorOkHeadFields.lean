/-
  The model's runs are what is told in Lean.
-/
import Derived.Test.YtabnbhknefibaaaDoorProg
import Derived.KernelRfl
import Derived.Test.YtabnbhknefibaaaDoorShelf
import Derived.Test.YtabnbhknefibaaaDoorIdx
import Derived.Test.YtabnbhknefibaaaDoorOkc1
set_option linter.unusedVariables false
set_option linter.unusedSimpArgs false
set_option maxHeartbeats 1000000
namespace Go.Proofs.YtabnbhknefibaaaDoor
open Go.Abs Go.Abs.Sh Tryd

theorem ok_wherrylaw15_HeadFields (mx : Int) (names : (List ByteArray)) (bodies : (List ByteArray)) (rest : (List Int)) (r : Bool) (h : Sh.wherrylaw15_HeadFields names bodies rest = some r) : FnG Tryd.prog (GL mx) 5 [.fl .shr 1 (List.map Value.string names), .fl .shr 1 (List.map Value.string bodies), .fl .shr 1 (List.map (Value.int .u8) rest)] (.v (.bool r)) := by
  unfold Sh.wherrylaw15_HeadFields at h
  refine fn_okG func5 rfl (zl rfl) rfl rfl fun g0 hn hio => ?_
  refine zgg hn [_,_,_,_,(6,vb false)] [0,1,2,3] [0,1,2,3] [zq [] 4 6] [(_,_),(_,_),(_,_),(_,_)] rfl ⟨z2 rfl,zz⟩ ?_
  refine ht_seq ?_
  obtain ⟨v1, hv1, h⟩ := bind_some h
  refine zg hn [_,_,_,_,(15,.fl .shr 1 (List.map Value.string names)),(16,vi (names.length : Int)),(17,.fl .shr 1 (List.map Value.string bodies)),(18,vi (bodies.length : Int)),(19,vi v1),(7,vi v1)] [0,1,2,3] [0,1,2,3,9] [zq [0] 4 15,zq [4] 5 16,zq [1] 6 17,zq [6] 7 18,zq [5,7] 8 19,zq [8] 9 7] [(_,_),(_,_),(_,_),(_,_),(_,_)] rfl ⟨z1 rfl,zp rfl (op_len_fl _ _ _ underlying45 rfl (by decide) (map_len _)),z1 rfl,zp rfl (op_len_fl _ _ _ underlying45 rfl (by decide) (map_len _)),zp rfl ((Option.some.inj hv1) ▸ op_min _ _ _ _ rfl rfl),z2 rfl,zz⟩ ?_
  refine pt_then (ht_seq ?_)
  refine ht_seq ?_
  refine ht_joinS h (fun (s3 : Bool) => [(0, .fl .shr 1 (List.map Value.string names)), (1, .fl .shr 1 (List.map Value.string bodies)), (2, .fl .shr 1 (List.map (Value.int .u8) rest)), (121, .glob (GL mx)), (7, .v (.int .i64 v1)), (31, .v (.bool s3))]) ?_ ?_
  ·rintro s3 h
   refine pt_then ?_
   refine ht_cond _ rfl (fun hb7 => ?_) (fun hb7 => ?_)
   ·have h := cond_t hb7 h
    refine zgg hn [_,_,_,_,_,_,(6,vb true)] [0,1,2,3,4,5] [3,6] [zq [] 6 6] [(_,_),(_,_)] rfl ⟨z2 rfl,zz⟩ ?_
    refine ht_ret ?_
    refine pt_pick [1] (by kernel_rfl) (es' := [(_,_)]) rfl ?_
    refine pt_r_then ?_
    obtain rfl := Option.some.inj h
    exact pt_ret hio rfl (.tmp _ _ .nil) rfl rfl
   ·have h := cond_f hb7 h
    refine ht_skip ?_
    refine pt_then ?_
    refine zgg hn [_,_,_,_,_,_,(8,.v (.slice none 0 0))] [0,1,2,3,4,5] [0,1,2,3,4,6] [zq [] 6 8] [(_,_),(_,_),(_,_),(_,_),(_,_),(_,_)] rfl ⟨z2 rfl,zz⟩ ?_
    refine zgg hn [_,_,_,_,_,_,(9,.v (.slice none 0 0))] [0,1,2,3,4,5] [0,1,2,3,4,5,6] [zq [] 6 9] [(_,_),(_,_),(_,_),(_,_),(_,_),(_,_),(_,_)] rfl ⟨z2 rfl,zz⟩ ?_
    refine ht_seq ?_
    refine zgg hn [_,_,_,_,_,_,_,(10,vi 0)] [0,1,2,3,4,5,6] [0,1,2,3,4,5,6,7] [zq [] 7 10] [(_,_),(_,_),(_,_),(_,_),(_,_),(_,_),(_,_),(_,_)] rfl ⟨z2 rfl,zz⟩ ?_
    refine ht_sub (fs := [(0, .fl .shr 1 (List.map Value.string names)), (1, .fl .shr 1 (List.map Value.string bodies)), (2, .fl .shr 1 (List.map (Value.int .u8) rest)), (121, .glob (GL mx)), (7, .v (.int .i64 v1)), (8, .fl (.own 5) 1 (List.map (Value.int .u8) [])), (9, .fl (.own 44) 2 (List.flatten (List.map T_Field.enc []))), (10, .v (.int .i64 0))]) (.same _ (.same _ (.same _ (.same _ (.same _ (.sub _ (sub_nil 5 1) rfl (.sub _ (sub_nil 44 2) rfl (.same _ .nil)))))))) ?_
    refine ht_loopS h (fun ((s67, s68, s69) : (List Int) × (List T_Field) × Int) => [(0, .fl .shr 1 (List.map Value.string names)), (1, .fl .shr 1 (List.map Value.string bodies)), (2, .fl .shr 1 (List.map (Value.int .u8) rest)), (121, .glob (GL mx)), (7, .v (.int .i64 v1)), (8, .fl (.own 5) 1 (List.map (Value.int .u8) s67)), (9, .fl (.own 44) 2 (List.flatten (List.map T_Field.enc s68))), (10, .v (.int .i64 s69))]) (fun ((s86, s87) : (List Int) × (List T_Field)) => [(2, .fl .shr 1 (List.map (Value.int .u8) rest)), (121, .glob (GL mx)), (8, .fl (.own 5) 1 (List.map (Value.int .u8) s86)), (9, .fl (.own 44) 2 (List.flatten (List.map T_Field.enc s87)))]) ?_ ?_
    ·rintro ⟨s86, s87⟩ h
     refine pt_then (ht_seq ?_)
     obtain ⟨v110, hv110, h⟩ := bind_some h
     refine zg hn [_,_,_,_,(92,.same (.slot 8)),(93,vi (s86.length : Int)),(94,vi v110),(11,vi v110)] [0,1,2,3] [0,1,2,3,7] [zq [2] 4 92,zq [4,2] 5 93,zq [5] 6 94,zq [6] 7 11] [(_,_),(_,_),(_,_),(_,_),(_,_)] rfl ⟨z1 rfl,zp rfl (op_len_fl _ _ _ underlying22 rfl (by decide) (map_len _)),zp rfl (oB rfl (ibind (f := Value.int .i64) (Option.some.inj hv110))),z2 rfl,zz⟩ ?_
     refine pt_then (ht_seq ?_)
     obtain ⟨v111, hv111, h⟩ := bind_some h
     obtain ⟨v112, hv112, h⟩ := bind_some h
     refine zg hn [_,_,_,_,_,(95,.fl (.own 5) 1 (List.map (Value.int .u8) s86)),(96,.fl (.own 5) 1 (List.map (Value.int .u8) [13,10])),(97,.fl (.own 5) 1 (List.map (Value.int .u8) v111)),(95,.any),(98,.fl .shr 1 (List.map (Value.int .u8) rest)),(99,.fl (.own 5) 1 (List.map (Value.int .u8) v112)),(97,.any),(8,.fl (.own 5) 1 (List.map (Value.int .u8) v112))] [0,1,2,3,4] [1,3,4,12] [⟨[],[2],[5],[(.slot 95)]⟩,zq [] 6 96,⟨[6],[5],[8,7],[(.slot 97)]⟩,zq [0] 9 98,⟨[9],[7],[11,10],[(.slot 99)]⟩,⟨[],[10],[12],[(.slot 8)]⟩] [(_,_),(_,_),(_,_),(_,_)] rfl ⟨zp rfl (op_move_take _ _ _ _ rfl),zp rfl (op_buildSlice _ _ 1 (.int .u8 0) (List.map (Value.int .u8) [13, 10]) [(0, .int .u8 13), (1, .int .u8 10)] underlying22 sz5 zr5 (fun _ V w o a hv hes => by simp only [List.map_toArray, List.map_cons, List.map_nil]; try rfl) (litfill (by simp [Instr.fill, Value.cells]; rfl) (by simp [List.range, List.range.loop] <;> rfl)) (by simp [Value.oneCell']) rfl (by decide) (by decide) (by decide)),zp rfl (op_app _ _ _ _ _ el22 rfl rfl (map_len _) (map_len _) hv111 ((List.map_append).symm.trans (congrArg (List.map _) (app_eq hv111)))),z1 rfl,zp rfl (op_app _ _ _ _ _ el22 rfl rfl (map_len _) (map_len _) hv112 ((List.map_append).symm.trans (congrArg (List.map _) (app_eq hv112)))),zp rfl (op_assign_take _ _ _ _ rfl),zz⟩ ?_
     refine pt_then (ht_seq ?_)
     obtain ⟨v113, hv113, h⟩ := bind_some h
     refine zg hn [_,_,_,_,(101,.fl (.own 5) 1 (List.map (Value.int .u8) v112)),(102,.tup [.fl (.own 44) 2 (List.flatten (List.map T_Field.enc v113.1)),vi v113.2.1,vi v113.2.2]),(100,.tup [.fl (.own 44) 2 (List.flatten (List.map T_Field.enc v113.1)),vi v113.2.1,vi v113.2.2]),(103,.fl (.own 44) 2 (List.flatten (List.map T_Field.enc v113.1))),(100,.tup [.any,vi v113.2.1,vi v113.2.2]),(104,vi v113.2.1),(105,vi v113.2.2),(12,.fl (.own 44) 2 (List.flatten (List.map T_Field.enc v113.1))),(13,vi v113.2.1),(14,vi v113.2.2)] [0,1,2,3] [0,1,2,11,12,13] [⟨[],[3],[4],[(.slot 101)]⟩,zq [4,0] 5 102,⟨[],[5],[6],[(.slot 100)]⟩,⟨[],[6],[8,7],[(.slot 103)]⟩,zq [8] 9 104,zq [8] 10 105,⟨[],[7],[11],[(.slot 12)]⟩,zq [9] 12 13,zq [10] 13 14] [(_,_),(_,_),(_,_),(_,_),(_,_),(_,_)] rfl ⟨zp rfl (op_move_take _ _ _ _ rfl),zp rfl (op_callG _ _ 121 10 _ _ rfl call10 rfl rfl (fun _ h => h) (ok_head_Scan mx v112 _ hv113) rfl rfl),zp rfl (op_move_take _ _ _ _ rfl),zp rfl (op_extract_take _ _ _ _ _ rfl (zl rfl) rfl rfl (by decide) rfl),zp rfl (oE rfl),zp rfl (oE rfl),zp rfl (op_assign_take _ _ _ _ rfl),z2 rfl,z2 rfl,zz⟩ ?_
     refine pt_then (ht_seq ?_)
     refine ht_joinS h (fun (s116 : Bool) => [(121, .glob (GL mx)), (6, .v (.bool s116))]) ?_ ?_
     ·rintro s116 h
      refine pt_then (ht_ret ?_)
      refine pt_pick [1] (by kernel_rfl) (es' := [(_,_)]) rfl ?_
      obtain rfl := Option.some.inj h
      exact pt_ret hio rfl (.tmp _ _ .nil) rfl rfl
     ·intro u117 h hl118 hr119
      refine cond_some h (fun hg15_2 h => ?_) (fun hg15_2 h => ?_)
      ·refine cond_some h (fun hg15_7 h => ?_) (fun hg15_7 h => ?_)
       ·obtain ⟨v114, hv114, h⟩ := bind_some h
        refine cond_some h (fun hg15_12 h => ?_) (fun hg15_12 h => ?_)
        ·obtain ⟨v115, hv115, h⟩ := bind_some h
         refine zg hn (_::_::_::_::_::_::(106,vi v113.2.2)::(107,vb (v113.2.2 == 0))::(108,vb true)::(109,vi v113.2.1)::(110,vi v110)::(111,vb (v113.2.1 == v110))::(112,vb (v113.2.1 == v110))::(113,vb true)::(114,.fl (.own 44) 2 (List.flatten (List.map T_Field.enc v113.1)))::(115,.fl (.own 44) 2 (List.flatten (List.map T_Field.enc s87)))::(116,vb v114)::(117,vb v114)::(118,vb true)::(119,vb v115)::(120,vb v115)::(6,vb v115)::[]) [0,1,2,3,4,5] [0,21] (zq [5] 6 106::zq [6] 7 107::zq [7] 8 108::zq [8,4] 9 109::zq [8,2] 10 110::zq [8,9,10] 11 111::zq [8,11] 12 112::zq [12] 13 113::⟨[13],[3],[14],[(.slot 114)]⟩::⟨[13],[1],[15],[(.slot 115)]⟩::zq [13,14,15] 16 116::zq [13,16] 17 117::zq [17] 18 118::zq [18,0] 19 119::zq [18,19] 20 120::zq [20] 21 6::[]) [(_,_),(_,_)] rfl ⟨z1 rfl,z4 rfl rfl,z8 hg15_2 rfl,zr' rfl (oM rfl),zr' rfl (oM rfl),zr' rfl (oB rfl rfl),z3 true rfl,z8 hg15_7 rfl,zr' rfl (op_move_take _ _ _ _ rfl),zr' rfl (op_move_take _ _ _ _ rfl),zr' rfl (op_call _ _ 20 _ _ rfl call20 rfl (ok_wherrykeep_Fields v113.1 s87 _ hv114) rfl rfl),z3 true rfl,z8 hg15_12 rfl,zr' rfl (op_callG _ _ 121 18 _ _ rfl call18 rfl rfl (fun _ h => h) (ok_wherrylaw15_wakes mx  _ hv115) rfl rfl),z3 true rfl,z2 rfl,zz⟩ ?_
         exact hl118 _ (Option.some.inj h).symm
        ·refine zg hn (_::_::_::_::_::_::(106,vi v113.2.2)::(107,vb (v113.2.2 == 0))::(108,vb true)::(109,vi v113.2.1)::(110,vi v110)::(111,vb (v113.2.1 == v110))::(112,vb (v113.2.1 == v110))::(113,vb true)::(114,.fl (.own 44) 2 (List.flatten (List.map T_Field.enc v113.1)))::(115,.fl (.own 44) 2 (List.flatten (List.map T_Field.enc s87)))::(116,vb v114)::(117,vb v114)::(118,vb false)::(119,.v undef)::(120,vb false)::(6,vb false)::[]) [0,1,2,3,4,5] [0,21] (zq [5] 6 106::zq [6] 7 107::zq [7] 8 108::zq [8,4] 9 109::zq [8,2] 10 110::zq [8,9,10] 11 111::zq [8,11] 12 112::zq [12] 13 113::⟨[13],[3],[14],[(.slot 114)]⟩::⟨[13],[1],[15],[(.slot 115)]⟩::zq [13,14,15] 16 116::zq [13,16] 17 117::zq [17] 18 118::zq [18] 19 119::zq [18] 20 120::zq [20] 21 6::[]) [(_,_),(_,_)] rfl ⟨z1 rfl,z4 rfl rfl,z8 hg15_2 rfl,zr' rfl (oM rfl),zr' rfl (oM rfl),zr' rfl (oB rfl rfl),z3 true rfl,z8 hg15_7 rfl,zr' rfl (op_move_take _ _ _ _ rfl),zr' rfl (op_move_take _ _ _ _ rfl),zr' rfl (op_call _ _ 20 _ _ rfl call20 rfl (ok_wherrykeep_Fields v113.1 s87 _ hv114) rfl rfl),z3 true rfl,z8 hg15_12 rfl,zt rfl,z3 false rfl,z2 rfl,zz⟩ ?_
         exact hl118 _ (Option.some.inj h).symm
       ·refine zg hn (_::_::_::_::_::_::(106,vi v113.2.2)::(107,vb (v113.2.2 == 0))::(108,vb true)::(109,vi v113.2.1)::(110,vi v110)::(111,vb (v113.2.1 == v110))::(112,vb (v113.2.1 == v110))::(113,vb false)::(114,.v undef)::(115,.v undef)::(116,.v undef)::(117,vb false)::(118,vb false)::(119,.v undef)::(120,vb false)::(6,vb false)::[]) [0,1,2,3,4,5] [0,21] (zq [5] 6 106::zq [6] 7 107::zq [7] 8 108::zq [8,4] 9 109::zq [8,2] 10 110::zq [8,9,10] 11 111::zq [8,11] 12 112::zq [12] 13 113::zq [13] 14 114::zq [13] 15 115::zq [13] 16 116::zq [13] 17 117::zq [17] 18 118::zq [18] 19 119::zq [18] 20 120::zq [20] 21 6::[]) [(_,_),(_,_)] rfl ⟨z1 rfl,z4 rfl rfl,z8 hg15_2 rfl,zr' rfl (oM rfl),zr' rfl (oM rfl),zr' rfl (oB rfl rfl),z3 true rfl,z8 hg15_7 rfl,zt rfl,zt rfl,zt rfl,z3 false rfl,z1 rfl,zt rfl,z3 false rfl,z2 rfl,zz⟩ ?_
        exact hl118 _ (Option.some.inj h).symm
      ·refine zg hn (_::_::_::_::_::_::(106,vi v113.2.2)::(107,vb (v113.2.2 == 0))::(108,vb false)::(109,.v undef)::(110,.v undef)::(111,.v undef)::(112,vb false)::(113,vb false)::(114,.v undef)::(115,.v undef)::(116,.v undef)::(117,vb false)::(118,vb false)::(119,.v undef)::(120,vb false)::(6,vb false)::[]) [0,1,2,3,4,5] [0,21] (zq [5] 6 106::zq [6] 7 107::zq [7] 8 108::zq [8] 9 109::zq [8] 10 110::zq [8] 11 111::zq [8] 12 112::zq [12] 13 113::zq [13] 14 114::zq [13] 15 115::zq [13] 16 116::zq [13] 17 117::zq [17] 18 118::zq [18] 19 119::zq [18] 20 120::zq [20] 21 6::[]) [(_,_),(_,_)] rfl ⟨z1 rfl,z4 rfl rfl,z8 hg15_2 rfl,zt rfl,zt rfl,zt rfl,z3 false rfl,z1 rfl,zt rfl,zt rfl,zt rfl,z3 false rfl,z1 rfl,zt rfl,z3 false rfl,z2 rfl,zz⟩ ?_
       exact hl118 _ (Option.some.inj h).symm
    ·rintro u88 hl89 hr90 ⟨s67, s68, s69⟩ rr93 h ho91
     refine ht_seq ?_
     refine zgg hn [_,_,_,_,_,_,_,_,(32,vi s69),(33,vi v1),(34,vb (decide (s69 < v1)))] [0,1,2,3,4,5,6,7] [0,1,2,3,4,5,6,7,10] [zq [7] 8 32,zq [4] 9 33,zq [8,9] 10 34] [(_,_),(_,_),(_,_),(_,_),(_,_),(_,_),(_,_),(_,_),(_,_)] rfl ⟨z1 rfl,z1 rfl,z4 rfl rfl,zz⟩ ?_
     refine ht_cond _ rfl (fun hb94 => ?_) (fun hb94 => ?_)
     ·have h := cond_t hb94 h
      refine ht_skip ?_
      refine pt_then (ht_seq ?_)
      refine ht_joinS h (fun ((s100, s101) : (List Int) × (List T_Field)) => [(0, .fl .shr 1 (List.map Value.string names)), (1, .fl .shr 1 (List.map Value.string bodies)), (2, .fl .shr 1 (List.map (Value.int .u8) rest)), (121, .glob (GL mx)), (7, .v (.int .i64 v1)), (8, .fl (.own 5) 1 (List.map (Value.int .u8) s100)), (9, .fl (.own 44) 2 (List.flatten (List.map T_Field.enc s101))), (10, .v (.int .i64 s69))]) ?_ ?_
      ·rintro ⟨s100, s101⟩ h
       refine pt_then ?_
       obtain ⟨v47, hv47, h⟩ := bind_some h
       refine zg hn [_,_,_,_,_,_,_,_,(35,vi s69),(36,vi v47),(10,vi v47)] [0,1,2,3,4,5,6,7] [0,1,2,3,4,5,6,10] [zq [7] 8 35,zq [8] 9 36,⟨[9],[7],[10],[(.slot 10)]⟩] [(_,_),(_,_),(_,_),(_,_),(_,_),(_,_),(_,_),(_,_)] rfl ⟨z1 rfl,zp rfl (oB rfl (ibind (f := Value.int .i64) (Option.some.inj hv47))),zp rfl (LOp.drop [_] (op_assign _ _ _ _ rfl rfl)),zz⟩ ?_
       exact pt_next _ (Option.some.inj h).symm rfl
      ·intro u102 h hl103 hr104
       refine ht_block ?_
       refine ht_seq ?_
       refine ht_seq ?_
       refine ht_joinS h (fun (s105 : Bool) => [(0, .fl .shr 1 (List.map Value.string names)), (1, .fl .shr 1 (List.map Value.string bodies)), (2, .fl .shr 1 (List.map (Value.int .u8) rest)), (121, .glob (GL mx)), (7, .v (.int .i64 v1)), (8, .fl (.own 5) 1 (List.map (Value.int .u8) s67)), (9, .fl (.own 44) 2 (List.flatten (List.map T_Field.enc s68))), (10, .v (.int .i64 s69)), (66, .v (.bool s105))]) ?_ ?_
       ·rintro s105 h
        refine pt_then ?_
        refine ht_cond _ rfl (fun hb109 => ?_) (fun hb109 => ?_)
        ·have h := cond_t hb109 h
         refine ht_exit ?_
         refine pt_x_then ?_
         refine pt_x_in ?_
         refine pt_pick [0, 1, 2, 3, 4, 5, 6, 7] (by kernel_rfl) (es' := [(_,_),(_,_),(_,_),(_,_),(_,_),(_,_),(_,_),(_,_)]) rfl ?_
         exact hl103 _ (Option.some.inj h).symm
        ·have h := cond_f hb109 h
         refine ht_skip ?_
         refine pt_then (ht_seq ?_)
         obtain ⟨v24, hv24, h⟩ := bind_some h
         obtain ⟨v25, hv25, h⟩ := bind_some h
         obtain ⟨v26, hv26, h⟩ := bind_some h
         obtain ⟨v27, hv27, h⟩ := bind_some h
         obtain ⟨v28, hv28, h⟩ := bind_some h
         refine ht_anyR (by kernel_rfl) hn (El := (_ :: _ :: _ :: _ :: _ :: _ :: _ :: _ :: _ :: (67, .fl (.own 44) 2 (List.flatten (List.map T_Field.enc s68))) :: (68, .fl .shr 1 (List.map Value.string names)) :: (69, .v (.int .i64 s69)) :: (70, .eref (.slot 68) (v24 * 1)) :: (71, .v (.string v25)) :: (72, .fl .shr 1 (List.map Value.string bodies)) :: (73, .v (.int .i64 s69)) :: (74, .eref (.slot 72) (v26 * 1)) :: (75, .v (.string v27)) :: (76, .agg [.v (.string v25), .v (.string v27)]) :: (77, .fl (.own 44) 2 (List.flatten (List.map T_Field.enc [(T_Field.mk v25 v27)]))) :: (78, .fl (.own 44) 2 (List.flatten (List.map T_Field.enc v28))) :: (67, .any) :: (9, .fl (.own 44) 2 (List.flatten (List.map T_Field.enc v28))) :: [])) (init := [0, 1, 2, 3, 4, 5, 6, 7, 8]) (fin := [0, 1, 2, 3, 4, 5, 7, 22]) (sps := [⟨[], [6], [9], [(.slot 67)]⟩, zq [0] 10 68, zq [7] 11 69, zq [10,11] 12 70, zq [12,10] 13 71, zq [1] 14 72, zq [7] 15 73, zq [14,15] 16 74, zq [16,14] 17 75, zq [13,17] 18 76, zq [18] 19 77, ⟨[19], [9], [21, 20], [(.slot 78)]⟩, ⟨[], [20], [22], [(.slot 9)]⟩]) (es' := [(_,_),(_,_),(_,_),(_,_),(_,_),(_,_),(_,_),(9, .fl (.own 44) 2 (List.flatten (List.map T_Field.enc v28)))]) (by kernel_rfl) rfl rfl ⟨zp rfl (op_move_take _ _ _ _ rfl),z1 rfl,z1 rfl,zp rfl (op_ix _ _ _ _ _ _ _ _ underlying45 sz9 (by decide) rfl rfl rfl (ix_ok hv24).1 (map_lt (ix_ok hv24).2) rfl),zp rfl (op_load_e _ _ _ _ _ _ underlying9 rfl rfl rfl (map_get hv25)),z1 rfl,z1 rfl,zp rfl (op_ix _ _ _ _ _ _ _ _ underlying45 sz9 (by decide) rfl rfl rfl (ix_ok hv26).1 (map_lt (ix_ok hv26).2) rfl),zp rfl (op_load_e _ _ _ _ _ _ underlying9 rfl rfl rfl (map_get hv27)),zp rfl (op_build _ _ _ _ [1, 1] _ _ underlying44 zr44 (fs44 _ underlying44) (.copy _ (.copy _ Src.nil)) rfl rfl rfl),zp rfl (op_buildSlice _ _ 2 (.agg #[.string ByteArray.empty, .string ByteArray.empty]) (List.flatten (List.map T_Field.enc [(T_Field.mk v25 v27)])) [(0, .agg #[.string v25, .string v27])] underlying24 sz44 zr44 (fun _ V w o a hv hes => by have e0 := agg_v (ys := [.string v25, .string v27]) hv hes (x := .tmp 76) rfl; simp only [List.map_toArray, List.map_cons, List.map_nil, e0]; try rfl) (litfill (by simp [Instr.fill, Value.cells]; rfl) (by simp [List.range, List.range.loop, T_Field.enc] <;> rfl)) (by simp [Value.oneCell', T_Field.enc]) rfl (by decide) (by decide) (by decide)),zp rfl (op_app _ _ _ _ _ el24 rfl rfl (flat_len T_Field.len _) (flat_len T_Field.len _) hv28 (flat_app (app_eq hv28))),zp rfl (op_assign_take _ _ _ _ rfl),zz⟩ ?_
         refine pt_then ?_
         obtain ⟨v29, hv29, h⟩ := bind_some h
         obtain ⟨v30, hv30, h⟩ := bind_some h
         obtain ⟨v31, hv31, h⟩ := bind_some h
         obtain ⟨v32, hv32, h⟩ := bind_some h
         obtain ⟨v33, hv33, h⟩ := bind_some h
         obtain ⟨v34, hv34, h⟩ := bind_some h
         obtain ⟨v35, hv35, h⟩ := bind_some h
         obtain ⟨v36, hv36, h⟩ := bind_some h
         refine ht_anyR (by kernel_rfl) hn (El := (_ :: _ :: _ :: _ :: _ :: _ :: _ :: _ :: (79, .fl (.own 5) 1 (List.map (Value.int .u8) s67)) :: (80, .fl .shr 1 (List.map Value.string names)) :: (81, .v (.int .i64 s69)) :: (82, .eref (.slot 80) (v29 * 1)) :: (83, .v (.string v30)) :: (84, .v (.string v31)) :: (85, .fl .shr 1 (List.map Value.string bodies)) :: (86, .v (.int .i64 s69)) :: (87, .eref (.slot 85) (v32 * 1)) :: (88, .v (.string v33)) :: (89, .v (.string v34)) :: (90, .v (.string v35)) :: (91, .fl (.own 5) 1 (List.map (Value.int .u8) v36)) :: (79, .any) :: (8, .fl (.own 5) 1 (List.map (Value.int .u8) v36)) :: [])) (init := [0, 1, 2, 3, 4, 5, 6, 7]) (fin := [0, 1, 2, 3, 4, 6, 7, 22]) (sps := [⟨[], [5], [8], [(.slot 79)]⟩, zq [0] 9 80, zq [6] 10 81, zq [9,10] 11 82, zq [11,9] 12 83, zq [12] 13 84, zq [1] 14 85, zq [6] 15 86, zq [14,15] 16 87, zq [16,14] 17 88, zq [13,17] 18 89, zq [18] 19 90, ⟨[19], [8], [21, 20], [(.slot 91)]⟩, ⟨[], [20], [22], [(.slot 8)]⟩]) (es' := [(_,_),(_,_),(_,_),(_,_),(_,_),(_,_),(_,_),(8, .fl (.own 5) 1 (List.map (Value.int .u8) v36))]) (by kernel_rfl) rfl rfl ⟨zp rfl (op_move_take _ _ _ _ rfl),z1 rfl,z1 rfl,zp rfl (op_ix _ _ _ _ _ _ _ _ underlying45 sz9 (by decide) rfl rfl rfl (ix_ok hv29).1 (map_lt (ix_ok hv29).2) rfl),zp rfl (op_load_e _ _ _ _ _ _ underlying9 rfl rfl rfl (map_get hv30)),zp rfl (oB rfl (cat_ok hv31)),z1 rfl,z1 rfl,zp rfl (op_ix _ _ _ _ _ _ _ _ underlying45 sz9 (by decide) rfl rfl rfl (ix_ok hv32).1 (map_lt (ix_ok hv32).2) rfl),zp rfl (op_load_e _ _ _ _ _ _ underlying9 rfl rfl rfl (map_get hv33)),zp rfl (oB rfl (cat_ok hv34)),zp rfl (oB rfl (cat_ok hv35)),zp rfl (op_apps _ _ _ _ _ el22 zr5 underlying9 rfl rfl rfl hv36 rfl),zp rfl (op_assign_take _ _ _ _ rfl),zz⟩ ?_
         refine pt_inb ?_
         refine pt_pick [0, 1, 2, 3, 4, 7, 6, 5] (by kernel_rfl) (es' := [(_,_),(_,_),(_,_),(_,_),(_,_),(_,_),(_,_),(_,_)]) rfl ?_
         exact hl103 _ (Option.some.inj h).symm
       ·intro u106 h hl107 hr108
        obtain ⟨v9, hv9, h⟩ := bind_some h
        obtain ⟨v10, hv10, h⟩ := bind_some h
        refine cond_some h (fun hg9_6 h => ?_) (fun hg9_6 h => ?_)
        ·refine zg hn (_::_::_::_::_::_::_::_::_::(37,.fl .shr 1 (List.map Value.string names))::(38,vi s69)::(39,.eref (.slot 37) (v9 * 1))::(40,vs v10)::(41,vi (v10.size : Int))::(42,vb (decide (30 < (v10.size : Int))))::(43,vb true)::(44,.v undef)::(45,.v undef)::(46,.v undef)::(47,.v undef)::(48,.v undef)::(49,.v undef)::(50,vb true)::(51,vb true)::(52,.v undef)::(53,.v undef)::(54,.v undef)::(55,.v undef)::(56,.v undef)::(57,.v undef)::(58,vb true)::(59,vb true)::(60,.v undef)::(61,.v undef)::(62,.v undef)::(63,.v undef)::(64,.v undef)::(65,.v undef)::(66,vb true)::[]) [0,1,2,3,4,5,6,7,8] [0,1,2,3,4,5,6,7,38] (zq [0] 9 37::zq [7] 10 38::zq [9,10] 11 39::zq [11,9] 12 40::zq [12] 13 41::zq [13] 14 42::zq [14] 15 43::zq [15] 16 44::zq [15] 17 45::zq [15] 18 46::zq [15] 19 47::zq [15] 20 48::zq [15] 21 49::zq [15] 22 50::zq [22] 23 51::zq [23] 24 52::zq [23] 25 53::zq [23] 26 54::zq [23] 27 55::zq [23] 28 56::zq [23] 29 57::zq [23] 30 58::zq [30] 31 59::zq [31] 32 60::zq [31] 33 61::zq [31] 34 62::zq [31] 35 63::zq [31] 36 64::zq [31] 37 65::zq [31] 38 66::[]) [(_,_),(_,_),(_,_),(_,_),(_,_),(_,_),(_,_),(_,_),(_,_)] rfl ⟨z1 rfl,z1 rfl,zp rfl (op_ix _ _ _ _ _ _ _ _ underlying45 sz9 (by decide) rfl rfl rfl (ix_ok hv9).1 (map_lt (ix_ok hv9).2) rfl),zp rfl (op_load_e _ _ _ _ _ _ underlying9 rfl rfl rfl (map_get hv10)),zp rfl (oN underlying9 rfl),z4 rfl rfl,z8 hg9_6 rfl,zf rfl,zf rfl,zf rfl,zf rfl,zf rfl,zf rfl,z3 true rfl,z1 rfl,zf rfl,zf rfl,zf rfl,zf rfl,zf rfl,zf rfl,z3 true rfl,z1 rfl,zf rfl,zf rfl,zf rfl,zf rfl,zf rfl,zf rfl,z3 true rfl,zz⟩ ?_
         exact hl107 _ (Option.some.inj h).symm
        ·obtain ⟨v11, hv11, h⟩ := bind_some h
         obtain ⟨v12, hv12, h⟩ := bind_some h
         refine cond_some h (fun hg9_14 h => ?_) (fun hg9_14 h => ?_)
         ·refine zg hn (_::_::_::_::_::_::_::_::_::(37,.fl .shr 1 (List.map Value.string names))::(38,vi s69)::(39,.eref (.slot 37) (v9 * 1))::(40,vs v10)::(41,vi (v10.size : Int))::(42,vb (decide (30 < (v10.size : Int))))::(43,vb false)::(44,.fl .shr 1 (List.map Value.string bodies))::(45,vi s69)::(46,.eref (.slot 44) (v11 * 1))::(47,vs v12)::(48,vi (v12.size : Int))::(49,vb (decide (60 < (v12.size : Int))))::(50,vb (decide (60 < (v12.size : Int))))::(51,vb true)::(52,.v undef)::(53,.v undef)::(54,.v undef)::(55,.v undef)::(56,.v undef)::(57,.v undef)::(58,vb true)::(59,vb true)::(60,.v undef)::(61,.v undef)::(62,.v undef)::(63,.v undef)::(64,.v undef)::(65,.v undef)::(66,vb true)::[]) [0,1,2,3,4,5,6,7,8] [0,1,2,3,4,5,6,7,38] (zq [0] 9 37::zq [7] 10 38::zq [9,10] 11 39::zq [11,9] 12 40::zq [12] 13 41::zq [13] 14 42::zq [14] 15 43::zq [15,1] 16 44::zq [15,7] 17 45::zq [15,16,17] 18 46::zq [15,18,16] 19 47::zq [15,19] 20 48::zq [15,20] 21 49::zq [15,21] 22 50::zq [22] 23 51::zq [23] 24 52::zq [23] 25 53::zq [23] 26 54::zq [23] 27 55::zq [23] 28 56::zq [23] 29 57::zq [23] 30 58::zq [30] 31 59::zq [31] 32 60::zq [31] 33 61::zq [31] 34 62::zq [31] 35 63::zq [31] 36 64::zq [31] 37 65::zq [31] 38 66::[]) [(_,_),(_,_),(_,_),(_,_),(_,_),(_,_),(_,_),(_,_),(_,_)] rfl ⟨z1 rfl,z1 rfl,zp rfl (op_ix _ _ _ _ _ _ _ _ underlying45 sz9 (by decide) rfl rfl rfl (ix_ok hv9).1 (map_lt (ix_ok hv9).2) rfl),zp rfl (op_load_e _ _ _ _ _ _ underlying9 rfl rfl rfl (map_get hv10)),zp rfl (oN underlying9 rfl),z4 rfl rfl,z8 hg9_6 rfl,zr' rfl (oM rfl),zr' rfl (oM rfl),zr' rfl (op_ix _ _ _ _ _ _ _ _ underlying45 sz9 (by decide) rfl rfl rfl (ix_ok hv11).1 (map_lt (ix_ok hv11).2) rfl),zr' rfl (op_load_e _ _ _ _ _ _ underlying9 rfl rfl rfl (map_get hv12)),zr' rfl (oN underlying9 rfl),zr' rfl (oB rfl rfl),z3 false rfl,z8 hg9_14 rfl,zf rfl,zf rfl,zf rfl,zf rfl,zf rfl,zf rfl,z3 true rfl,z1 rfl,zf rfl,zf rfl,zf rfl,zf rfl,zf rfl,zf rfl,z3 true rfl,zz⟩ ?_
          exact hl107 _ (Option.some.inj h).symm
         ·obtain ⟨v13, hv13, h⟩ := bind_some h
          obtain ⟨v14, hv14, h⟩ := bind_some h
          obtain ⟨v15, hv15, h⟩ := bind_some h
          refine cond_some h (fun hg9_22 h => ?_) (fun hg9_22 h => ?_)
          ·refine zg hn (_::_::_::_::_::_::_::_::_::(37,.fl .shr 1 (List.map Value.string names))::(38,vi s69)::(39,.eref (.slot 37) (v9 * 1))::(40,vs v10)::(41,vi (v10.size : Int))::(42,vb (decide (30 < (v10.size : Int))))::(43,vb false)::(44,.fl .shr 1 (List.map Value.string bodies))::(45,vi s69)::(46,.eref (.slot 44) (v11 * 1))::(47,vs v12)::(48,vi (v12.size : Int))::(49,vb (decide (60 < (v12.size : Int))))::(50,vb (decide (60 < (v12.size : Int))))::(51,vb false)::(52,.fl .shr 1 (List.map Value.string names))::(53,vi s69)::(54,.eref (.slot 52) (v13 * 1))::(55,vs v14)::(56,vb v15)::(57,vb (!v15))::(58,vb (!v15))::(59,vb true)::(60,.v undef)::(61,.v undef)::(62,.v undef)::(63,.v undef)::(64,.v undef)::(65,.v undef)::(66,vb true)::[]) [0,1,2,3,4,5,6,7,8] [0,1,2,3,4,5,6,7,38] (zq [0] 9 37::zq [7] 10 38::zq [9,10] 11 39::zq [11,9] 12 40::zq [12] 13 41::zq [13] 14 42::zq [14] 15 43::zq [15,1] 16 44::zq [15,7] 17 45::zq [15,16,17] 18 46::zq [15,18,16] 19 47::zq [15,19] 20 48::zq [15,20] 21 49::zq [15,21] 22 50::zq [22] 23 51::zq [23,0] 24 52::zq [23,7] 25 53::zq [23,24,25] 26 54::zq [23,26,24] 27 55::zq [23,27] 28 56::zq [23,28] 29 57::zq [23,29] 30 58::zq [30] 31 59::zq [31] 32 60::zq [31] 33 61::zq [31] 34 62::zq [31] 35 63::zq [31] 36 64::zq [31] 37 65::zq [31] 38 66::[]) [(_,_),(_,_),(_,_),(_,_),(_,_),(_,_),(_,_),(_,_),(_,_)] rfl ⟨z1 rfl,z1 rfl,zp rfl (op_ix _ _ _ _ _ _ _ _ underlying45 sz9 (by decide) rfl rfl rfl (ix_ok hv9).1 (map_lt (ix_ok hv9).2) rfl),zp rfl (op_load_e _ _ _ _ _ _ underlying9 rfl rfl rfl (map_get hv10)),zp rfl (oN underlying9 rfl),z4 rfl rfl,z8 hg9_6 rfl,zr' rfl (oM rfl),zr' rfl (oM rfl),zr' rfl (op_ix _ _ _ _ _ _ _ _ underlying45 sz9 (by decide) rfl rfl rfl (ix_ok hv11).1 (map_lt (ix_ok hv11).2) rfl),zr' rfl (op_load_e _ _ _ _ _ _ underlying9 rfl rfl rfl (map_get hv12)),zr' rfl (oN underlying9 rfl),zr' rfl (oB rfl rfl),z3 false rfl,z8 hg9_14 rfl,zr' rfl (oM rfl),zr' rfl (oM rfl),zr' rfl (op_ix _ _ _ _ _ _ _ _ underlying45 sz9 (by decide) rfl rfl rfl (ix_ok hv13).1 (map_lt (ix_ok hv13).2) rfl),zr' rfl (op_load_e _ _ _ _ _ _ underlying9 rfl rfl rfl (map_get hv14)),zr' rfl (op_call _ _ 22 _ _ rfl call22 rfl (ok_wherrylaw15_name v14 _ hv15) rfl rfl),zr' rfl (op_un _ _ _ _ rfl rfl),z3 false rfl,z8 hg9_22 rfl,zf rfl,zf rfl,zf rfl,zf rfl,zf rfl,zf rfl,z3 true rfl,zz⟩ ?_
           exact hl107 _ (Option.some.inj h).symm
          ·obtain ⟨v16, hv16, h⟩ := bind_some h
           obtain ⟨v17, hv17, h⟩ := bind_some h
           obtain ⟨v18, hv18, h⟩ := bind_some h
           refine zg hn (_::_::_::_::_::_::_::_::_::(37,.fl .shr 1 (List.map Value.string names))::(38,vi s69)::(39,.eref (.slot 37) (v9 * 1))::(40,vs v10)::(41,vi (v10.size : Int))::(42,vb (decide (30 < (v10.size : Int))))::(43,vb false)::(44,.fl .shr 1 (List.map Value.string bodies))::(45,vi s69)::(46,.eref (.slot 44) (v11 * 1))::(47,vs v12)::(48,vi (v12.size : Int))::(49,vb (decide (60 < (v12.size : Int))))::(50,vb (decide (60 < (v12.size : Int))))::(51,vb false)::(52,.fl .shr 1 (List.map Value.string names))::(53,vi s69)::(54,.eref (.slot 52) (v13 * 1))::(55,vs v14)::(56,vb v15)::(57,vb (!v15))::(58,vb (!v15))::(59,vb false)::(60,.fl .shr 1 (List.map Value.string bodies))::(61,vi s69)::(62,.eref (.slot 60) (v16 * 1))::(63,vs v17)::(64,vb v18)::(65,vb (!v18))::(66,vb (!v18))::[]) [0,1,2,3,4,5,6,7,8] [0,1,2,3,4,5,6,7,38] (zq [0] 9 37::zq [7] 10 38::zq [9,10] 11 39::zq [11,9] 12 40::zq [12] 13 41::zq [13] 14 42::zq [14] 15 43::zq [15,1] 16 44::zq [15,7] 17 45::zq [15,16,17] 18 46::zq [15,18,16] 19 47::zq [15,19] 20 48::zq [15,20] 21 49::zq [15,21] 22 50::zq [22] 23 51::zq [23,0] 24 52::zq [23,7] 25 53::zq [23,24,25] 26 54::zq [23,26,24] 27 55::zq [23,27] 28 56::zq [23,28] 29 57::zq [23,29] 30 58::zq [30] 31 59::zq [31,1] 32 60::zq [31,7] 33 61::zq [31,32,33] 34 62::zq [31,34,32] 35 63::zq [31,35] 36 64::zq [31,36] 37 65::zq [31,37] 38 66::[]) [(_,_),(_,_),(_,_),(_,_),(_,_),(_,_),(_,_),(_,_),(_,_)] rfl ⟨z1 rfl,z1 rfl,zp rfl (op_ix _ _ _ _ _ _ _ _ underlying45 sz9 (by decide) rfl rfl rfl (ix_ok hv9).1 (map_lt (ix_ok hv9).2) rfl),zp rfl (op_load_e _ _ _ _ _ _ underlying9 rfl rfl rfl (map_get hv10)),zp rfl (oN underlying9 rfl),z4 rfl rfl,z8 hg9_6 rfl,zr' rfl (oM rfl),zr' rfl (oM rfl),zr' rfl (op_ix _ _ _ _ _ _ _ _ underlying45 sz9 (by decide) rfl rfl rfl (ix_ok hv11).1 (map_lt (ix_ok hv11).2) rfl),zr' rfl (op_load_e _ _ _ _ _ _ underlying9 rfl rfl rfl (map_get hv12)),zr' rfl (oN underlying9 rfl),zr' rfl (oB rfl rfl),z3 false rfl,z8 hg9_14 rfl,zr' rfl (oM rfl),zr' rfl (oM rfl),zr' rfl (op_ix _ _ _ _ _ _ _ _ underlying45 sz9 (by decide) rfl rfl rfl (ix_ok hv13).1 (map_lt (ix_ok hv13).2) rfl),zr' rfl (op_load_e _ _ _ _ _ _ underlying9 rfl rfl rfl (map_get hv14)),zr' rfl (op_call _ _ 22 _ _ rfl call22 rfl (ok_wherrylaw15_name v14 _ hv15) rfl rfl),zr' rfl (op_un _ _ _ _ rfl rfl),z3 false rfl,z8 hg9_22 rfl,zr' rfl (oM rfl),zr' rfl (oM rfl),zr' rfl (op_ix _ _ _ _ _ _ _ _ underlying45 sz9 (by decide) rfl rfl rfl (ix_ok hv16).1 (map_lt (ix_ok hv16).2) rfl),zr' rfl (op_load_e _ _ _ _ _ _ underlying9 rfl rfl rfl (map_get hv17)),zr' rfl (op_call _ _ 23 _ _ rfl call23 rfl (ok_wherrylaw15_plain v17 _ hv18) rfl rfl),zr' rfl (op_un _ _ _ _ rfl rfl),z3 false rfl,zz⟩ ?_
           exact hl107 _ (Option.some.inj h).symm
     ·have h := cond_f hb94 h
      refine ht_exit ?_
      refine pt_x_then ?_
      refine pt_x_then ?_
      refine pt_x_in ?_
      refine pt_pick [2, 3, 5, 6] (by kernel_rfl) (es' := [(_,_),(_,_),(_,_),(_,_)]) rfl ?_
      exact hl89 _ (ho91 _ (Option.some.inj h).symm).symm
  ·intro u4 h hl5 hr6
   refine cond_some h (fun hg2_2 h => ?_) (fun hg2_2 h => ?_)
   ·refine zg hn (_::_::_::_::_::(20,vi v1)::(21,vb (decide (20 < v1)))::(22,vb true)::(23,.v undef)::(24,.v undef)::(25,.v undef)::(26,vb true)::(27,vb true)::(28,.v undef)::(29,.v undef)::(30,.v undef)::(31,vb true)::[]) [0,1,2,3,4] [0,1,2,3,4,16] [zq [4] 5 20,zq [5] 6 21,zq [6] 7 22,zq [7] 8 23,zq [7] 9 24,zq [7] 10 25,zq [7] 11 26,zq [11] 12 27,zq [12] 13 28,zq [12] 14 29,zq [12] 15 30,zq [12] 16 31] [(_,_),(_,_),(_,_),(_,_),(_,_),(_,_)] rfl ⟨z1 rfl,z4 rfl rfl,z8 hg2_2 rfl,zf rfl,zf rfl,zf rfl,z3 true rfl,z1 rfl,zf rfl,zf rfl,zf rfl,z3 true rfl,zz⟩ ?_
    exact hl5 _ (Option.some.inj h).symm
   ·refine cond_some h (fun hg2_7 h => ?_) (fun hg2_7 h => ?_)
    ·refine zg hn (_::_::_::_::_::(20,vi v1)::(21,vb (decide (20 < v1)))::(22,vb false)::(23,.fl .shr 1 (List.map (Value.int .u8) rest))::(24,vi (rest.length : Int))::(25,vb (decide (2000 < (rest.length : Int))))::(26,vb (decide (2000 < (rest.length : Int))))::(27,vb true)::(28,.v undef)::(29,.v undef)::(30,.v undef)::(31,vb true)::[]) [0,1,2,3,4] [0,1,2,3,4,16] [zq [4] 5 20,zq [5] 6 21,zq [6] 7 22,zq [7,2] 8 23,zq [7,8] 9 24,zq [7,9] 10 25,zq [7,10] 11 26,zq [11] 12 27,zq [12] 13 28,zq [12] 14 29,zq [12] 15 30,zq [12] 16 31] [(_,_),(_,_),(_,_),(_,_),(_,_),(_,_)] rfl ⟨z1 rfl,z4 rfl rfl,z8 hg2_2 rfl,zr' rfl (oM rfl),zr' rfl (op_len_fl _ _ _ underlying22 rfl (by decide) (map_len _)),zr' rfl (oB rfl rfl),z3 false rfl,z8 hg2_7 rfl,zf rfl,zf rfl,zf rfl,z3 true rfl,zz⟩ ?_
     exact hl5 _ (Option.some.inj h).symm
    ·obtain ⟨v2, hv2, h⟩ := bind_some h
     refine zg hn (_::_::_::_::_::(20,vi v1)::(21,vb (decide (20 < v1)))::(22,vb false)::(23,.fl .shr 1 (List.map (Value.int .u8) rest))::(24,vi (rest.length : Int))::(25,vb (decide (2000 < (rest.length : Int))))::(26,vb (decide (2000 < (rest.length : Int))))::(27,vb false)::(28,.fl .shr 1 (List.map (Value.int .u8) rest))::(29,vb v2)::(30,vb (!v2))::(31,vb (!v2))::[]) [0,1,2,3,4] [0,1,2,3,4,16] [zq [4] 5 20,zq [5] 6 21,zq [6] 7 22,zq [7,2] 8 23,zq [7,8] 9 24,zq [7,9] 10 25,zq [7,10] 11 26,zq [11] 12 27,zq [12,2] 13 28,zq [12,13] 14 29,zq [12,14] 15 30,zq [12,15] 16 31] [(_,_),(_,_),(_,_),(_,_),(_,_),(_,_)] rfl ⟨z1 rfl,z4 rfl rfl,z8 hg2_2 rfl,zr' rfl (oM rfl),zr' rfl (op_len_fl _ _ _ underlying22 rfl (by decide) (map_len _)),zr' rfl (oB rfl rfl),z3 false rfl,z8 hg2_7 rfl,zr' rfl (oM rfl),zr' rfl (op_call _ _ 17 _ _ rfl call17 rfl (ok_wherryref11_Body rest _ hv2) rfl rfl),zr' rfl (op_un _ _ _ _ rfl rfl),z3 false rfl,zz⟩ ?_
     exact hl5 _ (Option.some.inj h).symm

end Go.Proofs.YtabnbhknefibaaaDoor
