/-
  The model's runs are what is told in Lean.
-/
import Derived.Test.YtepkcpjfogjfhaaProg
import Derived.KernelRfl
import Derived.Test.YtepkcpjfogjfhaaB2
import Derived.Test.YtepkcpjfogjfhaaOkc2
set_option linter.unusedVariables false
set_option linter.unusedSimpArgs false
set_option maxHeartbeats 1000000
namespace Go.Proofs.Ytepkcpjfogjfhaa
open Go.Abs Go.Abs.Sh Try

theorem ok_wherrylaw04_MatchBent (b : (List Int)) (at_ : Int) (what : Int) (r : Bool) (h : Sh.wherrylaw04_MatchBent b at_ what = some r) : FnOK Try.prog 7 [.fl .shr 1 (List.map (Value.int .u8) b), .v (.int .i64 at_), .v (.int .i64 what)] (.v (.bool r)) := by
  unfold Sh.wherrylaw04_MatchBent at h
  refine fn_ok func7 rfl (zl rfl) rfl rfl fun g0 hn hio => ?_
  refine zgg hn [_,_,_,(6,vb false)] [0,1,2] [0,1,2] [zq [] 3 6] [(_,_),(_,_),(_,_)] rfl ⟨z2 rfl,zz⟩ ?_
  refine ht_seq ?_
  refine ht_seq ?_
  refine ht_joinS h (fun (s1 : Bool) => [(0, .fl .shr 1 (List.map (Value.int .u8) b)), (1, .v (.int .i64 at_)), (2, .v (.int .i64 what)), (20, .v (.bool s1))]) ?_ ?_
  ·rintro s1 h
   refine pt_then ?_
   refine ht_cond _ rfl (fun hb5 => ?_) (fun hb5 => ?_)
   ·have h := cond_t hb5 h
    refine zgg hn [_,_,_,_,(6,vb true)] [0,1,2,3] [4] [zq [] 4 6] [(_,_)] rfl ⟨z2 rfl,zz⟩ ?_
    refine ht_ret ?_
    refine pt_r_then ?_
    obtain rfl := Option.some.inj h
    exact pt_ret hio rfl (.tmp _ _ .nil) rfl rfl
   ·have h := cond_f hb5 h
    refine ht_skip ?_
    refine pt_then (ht_seq ?_)
    obtain ⟨v6, hv6, h⟩ := bind_some h
    refine zg hn [_,_,_,_,(21,.fl .shr 1 (List.map (Value.int .u8) b)),(22,.fl (.own 40) 3 (List.flatten (List.map T_Tok.enc v6))),(7,.fl (.own 40) 3 (List.flatten (List.map T_Tok.enc v6)))] [0,1,2,3] [1,2,6] [zq [0] 4 21,zq [4] 5 22,⟨[],[5],[6],[(.slot 7)]⟩] [(_,_),(_,_),(_,_)] rfl ⟨z1 rfl,zp rfl (op_call _ _ 27 _ _ rfl call27 rfl (ok_wherrylaw04_wherryToks b _ hv6) rfl rfl),zp rfl (op_assign_take _ _ _ _ rfl),zz⟩ ?_
    refine pt_then (ht_seq ?_)
    obtain ⟨v7, hv7, h⟩ := bind_some h
    obtain ⟨v8, hv8, h⟩ := bind_some h
    obtain ⟨v9, hv9, h⟩ := bind_some h
    obtain ⟨v10, hv10, h⟩ := bind_some h
    refine zg hn [_,_,_,(23,vi at_),(24,.v (.int .u64 v7)),(25,.same (.slot 7)),(26,vi (v6.length : Int)),(27,.v (.int .u64 v8)),(28,.v (.int .u64 v9)),(29,vi v10),(1,vi v10)] [0,1,2] [1,2,10] [zq [0] 3 23,zq [3] 4 24,zq [2] 5 25,zq [5,2] 6 26,zq [6] 7 27,zq [4,7] 8 28,zq [8] 9 29,⟨[9],[0],[10],[(.slot 1)]⟩] [(_,_),(_,_),(_,_)] rfl ⟨z1 rfl,zp rfl ((Option.some.inj hv7) ▸ op_conv _ _ _ underlying3 underlying42 rfl),z1 rfl,zp rfl (op_len_fl _ _ _ underlying23 rfl (by decide) (flat_len T_Tok.len _)),zp rfl ((Option.some.inj hv8) ▸ op_conv _ _ _ underlying3 underlying42 rfl),zp rfl (oB rfl (rem_ok hv9)),zp rfl ((Option.some.inj hv10) ▸ op_conv _ _ _ underlying42 underlying3 rfl),zp rfl (LOp.drop [_] (op_assign _ _ _ _ rfl rfl)),zz⟩ ?_
    refine pt_then ?_
    refine zgg hn [_,_,_,(8,vi 0)] [0,1,2] [0,1,2,3] [zq [] 3 8] [(_,_),(_,_),(_,_),(_,_)] rfl ⟨z2 rfl,zz⟩ ?_
    refine ht_seq ?_
    refine zgg hn [_,_,_,_,(9,vi 0)] [0,1,2,3] [0,1,2,3,4] [zq [] 4 9] [(_,_),(_,_),(_,_),(_,_),(_,_)] rfl ⟨z2 rfl,zz⟩ ?_
    refine ht_loopS h (fun ((s20, s21) : Int × Int) => [(2, .v (.int .i64 what)), (7, .fl (.own 40) 3 (List.flatten (List.map T_Tok.enc v6))), (1, .v (.int .i64 v10)), (8, .v (.int .i64 s20)), (9, .v (.int .i64 s21))]) (fun (s23 : Int) => [(2, .v (.int .i64 what)), (7, .fl (.own 40) 3 (List.flatten (List.map T_Tok.enc v6))), (1, .v (.int .i64 v10)), (8, .v (.int .i64 s23))]) ?_ ?_
    ·rintro s23 h
     refine pt_then (ht_seq ?_)
     obtain ⟨v31, hv31, h⟩ := bind_some h
     refine zg hn [_,_,_,_,(43,.same (.slot 7)),(44,.fl (.own 40) 3 (List.flatten (List.map T_Tok.enc v31))),(10,.fl (.own 40) 3 (List.flatten (List.map T_Tok.enc v31)))] [0,1,2,3] [0,1,2,3,6] [zq [1] 4 43,zq [4,1] 5 44,⟨[],[5],[6],[(.slot 10)]⟩] [(_,_),(_,_),(_,_),(_,_),(_,_)] rfl ⟨z1 rfl,zp rfl (op_call _ _ 13 _ _ rfl call13 rfl (ok_wherrykeep_TwinToks v6 _ hv31) rfl rfl),zp rfl (op_assign_take _ _ _ _ rfl),zz⟩ ?_
     refine pt_then (ht_seq ?_)
     refine ht_joinS h (fun (s57 : (List T_Tok)) => [(7, .fl (.own 40) 3 (List.flatten (List.map T_Tok.enc v6))), (10, .fl (.own 40) 3 (List.flatten (List.map T_Tok.enc s57)))]) ?_ ?_
     ·rintro s57 h
      refine pt_then (ht_seq ?_)
      obtain ⟨v71, hv71, h⟩ := bind_some h
      refine zg hn [_,_,(73,.same (.slot 10)),(74,.tup [.fl (.own 5) 1 (List.map (Value.int .u8) v71.1),vi v71.2]),(72,.tup [.fl (.own 5) 1 (List.map (Value.int .u8) v71.1),vi v71.2]),(75,.fl (.own 5) 1 (List.map (Value.int .u8) v71.1)),(72,.tup [.any,vi v71.2]),(76,vi v71.2),(11,.fl (.own 5) 1 (List.map (Value.int .u8) v71.1)),(12,vi v71.2)] [0,1] [0,1,8,9] [zq [1] 2 73,zq [2,1] 3 74,⟨[],[3],[4],[(.slot 72)]⟩,⟨[],[4],[6,5],[(.slot 75)]⟩,zq [6] 7 76,⟨[],[5],[8],[(.slot 11)]⟩,zq [7] 9 12] [(_,_),(_,_),(_,_),(_,_)] rfl ⟨z1 rfl,zp rfl (op_call _ _ 18 _ _ rfl call18 rfl (ok_match_Expand s57 _ hv71) rfl rfl),zp rfl (op_move_take _ _ _ _ rfl),zp rfl (op_extract_take _ _ _ _ _ rfl (zl rfl) rfl rfl (by decide) rfl),zp rfl (oE rfl),zp rfl (op_assign_take _ _ _ _ rfl),z2 rfl,zz⟩ ?_
      refine pt_then (ht_seq ?_)
      refine ht_joinS h (fun (s75 : Bool) => [(6, .v (.bool s75))]) ?_ ?_
      ·rintro s75 h
       refine pt_then (ht_ret ?_)
       obtain rfl := Option.some.inj h
       exact pt_ret hio rfl (.tmp _ _ .nil) rfl rfl
      ·intro u76 h hl77 hr78
       obtain ⟨v72, hv72, h⟩ := bind_some h
       refine cond_some h (fun hg20_3 h => ?_) (fun hg20_3 h => ?_)
       ·obtain ⟨v73, hv73, h⟩ := bind_some h
        refine cond_some h (fun hg20_8 h => ?_) (fun hg20_8 h => ?_)
        ·refine cond_some h (fun hg20_12 h => ?_) (fun hg20_12 h => ?_)
         ·refine cond_some h (fun hg20_17 h => ?_) (fun hg20_17 h => ?_)
          ·obtain ⟨v74, hv74, h⟩ := bind_some h
           refine zg hn (_::_::_::_::(77,.fl (.own 40) 3 (List.flatten (List.map T_Tok.enc v6)))::(78,vi v72)::(79,vb (v72 == 0))::(80,vb true)::(81,.fl (.own 40) 3 (List.flatten (List.map T_Tok.enc s57)))::(82,vi v73)::(83,vb (v73 == 1))::(84,vb (v73 == 1))::(85,vb true)::(86,vi v71.2)::(87,vb (v71.2 == 1))::(88,vb (v71.2 == 1))::(89,vb true)::(90,.fl (.own 5) 1 (List.map (Value.int .u8) v71.1))::(91,vi (v71.1.length : Int))::(92,vb ((v71.1.length : Int) == 0))::(93,vb ((v71.1.length : Int) == 0))::(94,vb true)::(95,vb v74)::(96,vb v74)::(6,vb v74)::[]) [0,1,2,3] [24] (⟨[],[0],[4],[(.slot 77)]⟩::zq [4] 5 78::zq [5] 6 79::zq [6] 7 80::⟨[7],[1],[8],[(.slot 81)]⟩::zq [7,8] 9 82::zq [7,9] 10 83::zq [7,10] 11 84::zq [11] 12 85::zq [12,3] 13 86::zq [12,13] 14 87::zq [12,14] 15 88::zq [15] 16 89::⟨[16],[2],[17],[(.slot 90)]⟩::zq [16,17] 18 91::zq [16,18] 19 92::zq [16,19] 20 93::zq [20] 21 94::zq [21] 22 95::zq [21,22] 23 96::zq [23] 24 6::[]) [(_,_)] rfl ⟨zp rfl (op_move_take _ _ _ _ rfl),zp rfl (op_call _ _ 22 _ _ rfl call22 rfl (ok_match_Check v6 _ hv72) rfl rfl),z4 rfl rfl,z8 hg20_3 rfl,zr' rfl (op_move_take _ _ _ _ rfl),zr' rfl (op_call _ _ 22 _ _ rfl call22 rfl (ok_match_Check s57 _ hv73) rfl rfl),zr' rfl (oB rfl rfl),z3 true rfl,z8 hg20_8 rfl,zr' rfl (oM rfl),zr' rfl (oB rfl rfl),z3 true rfl,z8 hg20_12 rfl,zr' rfl (op_move_take _ _ _ _ rfl),zr' rfl (op_len_fl _ _ _ underlying22 rfl (by decide) (map_len _)),zr' rfl (oB rfl rfl),z3 true rfl,z8 hg20_17 rfl,zr' rfl (op_call _ _ 25 _ _ rfl call25 rfl (ok_wherrylaw04_wakes  _ hv74) rfl rfl),z3 true rfl,z2 rfl,zz⟩ ?_
           exact hl77 _ (Option.some.inj h).symm
          ·refine zg hn (_::_::_::_::(77,.fl (.own 40) 3 (List.flatten (List.map T_Tok.enc v6)))::(78,vi v72)::(79,vb (v72 == 0))::(80,vb true)::(81,.fl (.own 40) 3 (List.flatten (List.map T_Tok.enc s57)))::(82,vi v73)::(83,vb (v73 == 1))::(84,vb (v73 == 1))::(85,vb true)::(86,vi v71.2)::(87,vb (v71.2 == 1))::(88,vb (v71.2 == 1))::(89,vb true)::(90,.fl (.own 5) 1 (List.map (Value.int .u8) v71.1))::(91,vi (v71.1.length : Int))::(92,vb ((v71.1.length : Int) == 0))::(93,vb ((v71.1.length : Int) == 0))::(94,vb false)::(95,.v undef)::(96,vb false)::(6,vb false)::[]) [0,1,2,3] [24] (⟨[],[0],[4],[(.slot 77)]⟩::zq [4] 5 78::zq [5] 6 79::zq [6] 7 80::⟨[7],[1],[8],[(.slot 81)]⟩::zq [7,8] 9 82::zq [7,9] 10 83::zq [7,10] 11 84::zq [11] 12 85::zq [12,3] 13 86::zq [12,13] 14 87::zq [12,14] 15 88::zq [15] 16 89::⟨[16],[2],[17],[(.slot 90)]⟩::zq [16,17] 18 91::zq [16,18] 19 92::zq [16,19] 20 93::zq [20] 21 94::zq [21] 22 95::zq [21] 23 96::zq [23] 24 6::[]) [(_,_)] rfl ⟨zp rfl (op_move_take _ _ _ _ rfl),zp rfl (op_call _ _ 22 _ _ rfl call22 rfl (ok_match_Check v6 _ hv72) rfl rfl),z4 rfl rfl,z8 hg20_3 rfl,zr' rfl (op_move_take _ _ _ _ rfl),zr' rfl (op_call _ _ 22 _ _ rfl call22 rfl (ok_match_Check s57 _ hv73) rfl rfl),zr' rfl (oB rfl rfl),z3 true rfl,z8 hg20_8 rfl,zr' rfl (oM rfl),zr' rfl (oB rfl rfl),z3 true rfl,z8 hg20_12 rfl,zr' rfl (op_move_take _ _ _ _ rfl),zr' rfl (op_len_fl _ _ _ underlying22 rfl (by decide) (map_len _)),zr' rfl (oB rfl rfl),z3 true rfl,z8 hg20_17 rfl,zt rfl,z3 false rfl,z2 rfl,zz⟩ ?_
           exact hl77 _ (Option.some.inj h).symm
         ·refine zg hn (_::_::_::_::(77,.fl (.own 40) 3 (List.flatten (List.map T_Tok.enc v6)))::(78,vi v72)::(79,vb (v72 == 0))::(80,vb true)::(81,.fl (.own 40) 3 (List.flatten (List.map T_Tok.enc s57)))::(82,vi v73)::(83,vb (v73 == 1))::(84,vb (v73 == 1))::(85,vb true)::(86,vi v71.2)::(87,vb (v71.2 == 1))::(88,vb (v71.2 == 1))::(89,vb false)::(90,.v undef)::(91,.v undef)::(92,.v undef)::(93,vb false)::(94,vb false)::(95,.v undef)::(96,vb false)::(6,vb false)::[]) [0,1,2,3] [24] (⟨[],[0],[4],[(.slot 77)]⟩::zq [4] 5 78::zq [5] 6 79::zq [6] 7 80::⟨[7],[1],[8],[(.slot 81)]⟩::zq [7,8] 9 82::zq [7,9] 10 83::zq [7,10] 11 84::zq [11] 12 85::zq [12,3] 13 86::zq [12,13] 14 87::zq [12,14] 15 88::zq [15] 16 89::zq [16] 17 90::zq [16] 18 91::zq [16] 19 92::zq [16] 20 93::zq [20] 21 94::zq [21] 22 95::zq [21] 23 96::zq [23] 24 6::[]) [(_,_)] rfl ⟨zp rfl (op_move_take _ _ _ _ rfl),zp rfl (op_call _ _ 22 _ _ rfl call22 rfl (ok_match_Check v6 _ hv72) rfl rfl),z4 rfl rfl,z8 hg20_3 rfl,zr' rfl (op_move_take _ _ _ _ rfl),zr' rfl (op_call _ _ 22 _ _ rfl call22 rfl (ok_match_Check s57 _ hv73) rfl rfl),zr' rfl (oB rfl rfl),z3 true rfl,z8 hg20_8 rfl,zr' rfl (oM rfl),zr' rfl (oB rfl rfl),z3 true rfl,z8 hg20_12 rfl,zt rfl,zt rfl,zt rfl,z3 false rfl,z1 rfl,zt rfl,z3 false rfl,z2 rfl,zz⟩ ?_
          exact hl77 _ (Option.some.inj h).symm
        ·refine zg hn (_::_::_::_::(77,.fl (.own 40) 3 (List.flatten (List.map T_Tok.enc v6)))::(78,vi v72)::(79,vb (v72 == 0))::(80,vb true)::(81,.fl (.own 40) 3 (List.flatten (List.map T_Tok.enc s57)))::(82,vi v73)::(83,vb (v73 == 1))::(84,vb (v73 == 1))::(85,vb false)::(86,.v undef)::(87,.v undef)::(88,vb false)::(89,vb false)::(90,.v undef)::(91,.v undef)::(92,.v undef)::(93,vb false)::(94,vb false)::(95,.v undef)::(96,vb false)::(6,vb false)::[]) [0,1,2,3] [24] (⟨[],[0],[4],[(.slot 77)]⟩::zq [4] 5 78::zq [5] 6 79::zq [6] 7 80::⟨[7],[1],[8],[(.slot 81)]⟩::zq [7,8] 9 82::zq [7,9] 10 83::zq [7,10] 11 84::zq [11] 12 85::zq [12] 13 86::zq [12] 14 87::zq [12] 15 88::zq [15] 16 89::zq [16] 17 90::zq [16] 18 91::zq [16] 19 92::zq [16] 20 93::zq [20] 21 94::zq [21] 22 95::zq [21] 23 96::zq [23] 24 6::[]) [(_,_)] rfl ⟨zp rfl (op_move_take _ _ _ _ rfl),zp rfl (op_call _ _ 22 _ _ rfl call22 rfl (ok_match_Check v6 _ hv72) rfl rfl),z4 rfl rfl,z8 hg20_3 rfl,zr' rfl (op_move_take _ _ _ _ rfl),zr' rfl (op_call _ _ 22 _ _ rfl call22 rfl (ok_match_Check s57 _ hv73) rfl rfl),zr' rfl (oB rfl rfl),z3 true rfl,z8 hg20_8 rfl,zt rfl,zt rfl,z3 false rfl,z1 rfl,zt rfl,zt rfl,zt rfl,z3 false rfl,z1 rfl,zt rfl,z3 false rfl,z2 rfl,zz⟩ ?_
         exact hl77 _ (Option.some.inj h).symm
       ·refine zg hn (_::_::_::_::(77,.fl (.own 40) 3 (List.flatten (List.map T_Tok.enc v6)))::(78,vi v72)::(79,vb (v72 == 0))::(80,vb false)::(81,.v undef)::(82,.v undef)::(83,.v undef)::(84,vb false)::(85,vb false)::(86,.v undef)::(87,.v undef)::(88,vb false)::(89,vb false)::(90,.v undef)::(91,.v undef)::(92,.v undef)::(93,vb false)::(94,vb false)::(95,.v undef)::(96,vb false)::(6,vb false)::[]) [0,1,2,3] [24] (⟨[],[0],[4],[(.slot 77)]⟩::zq [4] 5 78::zq [5] 6 79::zq [6] 7 80::zq [7] 8 81::zq [7] 9 82::zq [7] 10 83::zq [7] 11 84::zq [11] 12 85::zq [12] 13 86::zq [12] 14 87::zq [12] 15 88::zq [15] 16 89::zq [16] 17 90::zq [16] 18 91::zq [16] 19 92::zq [16] 20 93::zq [20] 21 94::zq [21] 22 95::zq [21] 23 96::zq [23] 24 6::[]) [(_,_)] rfl ⟨zp rfl (op_move_take _ _ _ _ rfl),zp rfl (op_call _ _ 22 _ _ rfl call22 rfl (ok_match_Check v6 _ hv72) rfl rfl),z4 rfl rfl,z8 hg20_3 rfl,zt rfl,zt rfl,zt rfl,z3 false rfl,z1 rfl,zt rfl,zt rfl,z3 false rfl,z1 rfl,zt rfl,zt rfl,zt rfl,z3 false rfl,z1 rfl,zt rfl,z3 false rfl,z2 rfl,zz⟩ ?_
        exact hl77 _ (Option.some.inj h).symm
     ·intro u58 h hl59 hr60
      refine ht_seq ?_
      obtain ⟨v32, hv32, h⟩ := bind_some h
      obtain ⟨v33, hv33, h⟩ := bind_some h
      refine zg hn [_,_,_,_,_,(45,vi what),(46,.v (.int .u64 v32)),(47,.v (.int .u64 v33))] [0,1,2,3,4] [1,2,3,4,7] [zq [0] 5 45,zq [5] 6 46,zq [6] 7 47] [(_,_),(_,_),(_,_),(_,_),(_,_)] rfl ⟨z1 rfl,zp rfl ((Option.some.inj hv32) ▸ op_conv _ _ _ underlying3 underlying42 rfl),zp rfl (oB rfl (rem_ok hv33)),zz⟩ ?_
      refine pt_then ?_
      refine ht_joinS h (fun (s64 : (List T_Tok)) => [(7, .fl (.own 40) 3 (List.flatten (List.map T_Tok.enc v6))), (10, .fl (.own 40) 3 (List.flatten (List.map T_Tok.enc s64)))]) ?_ ?_
      ·rintro s64 h
       exact hl59 _ (Option.some.inj h).symm
      ·intro u65 h hl66 hr67
       refine ht_block ?_
       refine zgg hn [_,_,_,_,_,(53,vb (v33 == 0)),(52,vb (v33 == 0))] [0,1,2,3,4] [0,1,2,3,4,6] [zq [4] 5 53,zq [5] 6 52] [(_,_),(_,_),(_,_),(_,_),(_,_),(_,_)] rfl ⟨z4 rfl rfl,z2 rfl,zz⟩ ?_
       refine ht_cond _ rfl (fun hb68 => ?_) (fun hb68 => ?_)
       ·have h := cond_t hb68 h
        obtain ⟨v35, hv35, h⟩ := bind_some h
        obtain ⟨v36, hv36, h⟩ := bind_some h
        obtain ⟨v37, hv37, h⟩ := bind_some h
        obtain ⟨v38, hv38, h⟩ := bind_some h
        refine zg hn [_,_,_,_,_,_,(54,.same (.slot 10)),(55,vi v10),(56,vi s23),(57,vi v35),(58,.agg [.v (.int .u8 0),vi 3,vi v35]),(59,.eref (.slot 10) (v36 * 3)),(10,.fl (.own 40) 3 (List.flatten (List.map T_Tok.enc v38)))] [0,1,2,3,4,5] [0,12] [zq [3] 6 54,zq [1] 7 55,zq [2] 8 56,zq [8] 9 57,zq [9] 10 58,zq [6,3,7] 11 59,⟨[11,10],[3],[12],[]⟩] [(_,_),(_,_)] rfl ⟨z1 rfl,z1 rfl,z1 rfl,zp rfl (oB rfl (ibind (f := Value.int .i64) (Option.some.inj hv35))),zp rfl (op_build _ _ _ _ [1, 1, 1] _ _ underlying40 zr40 (fs40 _ underlying40) (.copy _ (.copy _ Src.nil)) rfl rfl rfl),zp rfl (op_ix _ _ _ _ _ _ _ _ underlying23 sz40 (by decide) rfl rfl rfl (ix_ok hv36).1 (flat_lt T_Tok.len (ix_ok hv36).2) rfl),zp rfl (op_store_e _ _ _ _ _ _ _ _ sz40 rfl rfl rfl (by decide) (flat_fit (q := 0) (s := 3) T_Tok.len hv37 (by decide)) ((flat_setc (q := 0) (s := 3) (y := (T_Tok.mk 0 3 v35)) T_Tok.len hv37 rfl (by decide)).trans (congrArg (fun l => List.flatten (List.map T_Tok.enc l)) (Option.some.inj hv38)))),zz⟩ ?_
        refine pt_inb ?_
        exact hl66 _ (Option.some.inj h).symm
       ·have h := cond_f hb68 h
        refine zgg hn [_,_,_,_,_,_,(61,vb (v33 == 1)),(60,vb (v33 == 1))] [0,1,2,3,4,5] [0,1,3,4,7] [zq [4] 6 61,zq [6] 7 60] [(_,_),(_,_),(_,_),(_,_),(_,_)] rfl ⟨z4 rfl rfl,z2 rfl,zz⟩ ?_
        refine ht_cond _ rfl (fun hb69 => ?_) (fun hb69 => ?_)
        ·have h := cond_t hb69 h
         obtain ⟨v40, hv40, h⟩ := bind_some h
         obtain ⟨v41, hv41, h⟩ := bind_some h
         obtain ⟨v42, hv42, h⟩ := bind_some h
         refine zg hn [_,_,_,_,_,(62,.same (.slot 10)),(63,vi v10),(64,.agg [.v (.int .u8 0),vi 2,vi 1]),(65,.eref (.slot 10) (v40 * 3)),(10,.fl (.own 40) 3 (List.flatten (List.map T_Tok.enc v42)))] [0,1,2,3,4] [0,9] [zq [2] 5 62,zq [1] 6 63,zq [] 7 64,zq [5,2,6] 8 65,⟨[8,7],[2],[9],[]⟩] [(_,_),(_,_)] rfl ⟨z1 rfl,z1 rfl,zp rfl (op_build _ _ _ _ [1, 1, 1] _ _ underlying40 zr40 (fs40 _ underlying40) (.copy _ (.copy _ Src.nil)) rfl rfl rfl),zp rfl (op_ix _ _ _ _ _ _ _ _ underlying23 sz40 (by decide) rfl rfl rfl (ix_ok hv40).1 (flat_lt T_Tok.len (ix_ok hv40).2) rfl),zp rfl (op_store_e _ _ _ _ _ _ _ _ sz40 rfl rfl rfl (by decide) (flat_fit (q := 0) (s := 3) T_Tok.len hv41 (by decide)) ((flat_setc (q := 0) (s := 3) (y := (T_Tok.mk 0 2 1)) T_Tok.len hv41 rfl (by decide)).trans (congrArg (fun l => List.flatten (List.map T_Tok.enc l)) (Option.some.inj hv42)))),zz⟩ ?_
         refine pt_inb ?_
         exact hl66 _ (Option.some.inj h).symm
        ·have h := cond_f hb69 h
         refine zgg hn [_,_,_,_,_,(67,vb (v33 == 2)),(66,vb (v33 == 2))] [0,1,2,3,4] [0,1,2,6] [zq [3] 5 67,zq [5] 6 66] [(_,_),(_,_),(_,_),(_,_)] rfl ⟨z4 rfl rfl,z2 rfl,zz⟩ ?_
         refine ht_cond _ rfl (fun hb70 => ?_) (fun hb70 => ?_)
         ·have h := cond_t hb70 h
          obtain ⟨v44, hv44, h⟩ := bind_some h
          obtain ⟨v45, hv45, h⟩ := bind_some h
          obtain ⟨v46, hv46, h⟩ := bind_some h
          refine zg hn [_,_,_,_,(68,.same (.slot 10)),(69,vi v10),(70,.agg [.v (.int .u8 0),vi 259,vi 1]),(71,.eref (.slot 10) (v44 * 3)),(10,.fl (.own 40) 3 (List.flatten (List.map T_Tok.enc v46)))] [0,1,2,3] [0,8] [zq [2] 4 68,zq [1] 5 69,zq [] 6 70,zq [4,2,5] 7 71,⟨[7,6],[2],[8],[]⟩] [(_,_),(_,_)] rfl ⟨z1 rfl,z1 rfl,zp rfl (op_build _ _ _ _ [1, 1, 1] _ _ underlying40 zr40 (fs40 _ underlying40) (.copy _ (.copy _ Src.nil)) rfl rfl rfl),zp rfl (op_ix _ _ _ _ _ _ _ _ underlying23 sz40 (by decide) rfl rfl rfl (ix_ok hv44).1 (flat_lt T_Tok.len (ix_ok hv44).2) rfl),zp rfl (op_store_e _ _ _ _ _ _ _ _ sz40 rfl rfl rfl (by decide) (flat_fit (q := 0) (s := 3) T_Tok.len hv45 (by decide)) ((flat_setc (q := 0) (s := 3) (y := (T_Tok.mk 0 259 1)) T_Tok.len hv45 rfl (by decide)).trans (congrArg (fun l => List.flatten (List.map T_Tok.enc l)) (Option.some.inj hv46)))),zz⟩ ?_
          refine pt_inb ?_
          exact hl66 _ (Option.some.inj h).symm
         ·have h := cond_f hb70 h
          obtain ⟨v47, hv47, h⟩ := bind_some h
          obtain ⟨v48, hv48, h⟩ := bind_some h
          obtain ⟨v49, hv49, h⟩ := bind_some h
          refine zg hn [_,_,_,_,(48,.same (.slot 10)),(49,vi v10),(50,.agg [.v (.int .u8 1),vi 3,vi 1]),(51,.eref (.slot 10) (v47 * 3)),(10,.fl (.own 40) 3 (List.flatten (List.map T_Tok.enc v49)))] [0,1,2,3] [0,8] [zq [2] 4 48,zq [1] 5 49,zq [] 6 50,zq [4,2,5] 7 51,⟨[7,6],[2],[8],[]⟩] [(_,_),(_,_)] rfl ⟨z1 rfl,z1 rfl,zp rfl (op_build _ _ _ _ [1, 1, 1] _ _ underlying40 zr40 (fs40 _ underlying40) (.copy _ (.copy _ (.copy _ Src.nil))) rfl rfl rfl),zp rfl (op_ix _ _ _ _ _ _ _ _ underlying23 sz40 (by decide) rfl rfl rfl (ix_ok hv47).1 (flat_lt T_Tok.len (ix_ok hv47).2) rfl),zp rfl (op_store_e _ _ _ _ _ _ _ _ sz40 rfl rfl rfl (by decide) (flat_fit (q := 0) (s := 3) T_Tok.len hv48 (by decide)) ((flat_setc (q := 0) (s := 3) (y := (T_Tok.mk 1 3 1)) T_Tok.len hv48 rfl (by decide)).trans (congrArg (fun l => List.flatten (List.map T_Tok.enc l)) (Option.some.inj hv49)))),zz⟩ ?_
          refine pt_inb ?_
          exact hl66 _ (Option.some.inj h).symm
    ·rintro u24 hl25 hr26 ⟨s20, s21⟩ rr29 h ho27
     refine ht_seq ?_
     refine zgg hn [_,_,_,_,_,(30,vi s21),(31,vi v10),(32,vb (decide (s21 < v10)))] [0,1,2,3,4] [0,1,2,3,4,7] [zq [4] 5 30,zq [2] 6 31,zq [5,6] 7 32] [(_,_),(_,_),(_,_),(_,_),(_,_),(_,_)] rfl ⟨z1 rfl,z1 rfl,z4 rfl rfl,zz⟩ ?_
     refine ht_cond _ rfl (fun hb30 => ?_) (fun hb30 => ?_)
     ·have h := cond_t hb30 h
      refine ht_skip ?_
      refine pt_then (ht_seq ?_)
      refine ht_block ?_
      obtain ⟨v12, hv12, h⟩ := bind_some h
      obtain ⟨v13, hv13, h⟩ := bind_some h
      obtain ⟨v14, hv14, h⟩ := bind_some h
      obtain ⟨v15, hv15, h⟩ := bind_some h
      refine zg hn (_::_::_::_::_::_::(35,vi s20)::(36,.same (.slot 7))::(37,vi s21)::(38,.eref (.slot 7) (v12 * 3))::(39,.eref (.slot 7) (v12 * 3 + 1))::(40,vi v13.Len)::(41,vi v14)::(42,vi v15)::(8,vi v15)::[]) [0,1,2,3,4,5] [0,1,2,4,14] [zq [3] 6 35,zq [1] 7 36,zq [4] 8 37,zq [7,1,8] 9 38,zq [9,1] 10 39,zq [10,1] 11 40,zq [11] 12 41,zq [6,12] 13 42,⟨[13],[3],[14],[(.slot 8)]⟩] [(_,_),(_,_),(_,_),(_,_),(_,_)] rfl ⟨z1 rfl,z1 rfl,z1 rfl,zp rfl (op_ix _ _ _ _ _ _ _ _ underlying23 sz40 (by decide) rfl rfl rfl (ix_ok hv12).1 (flat_lt T_Tok.len (ix_ok hv12).2) rfl),zp rfl (op_fieldAddr_e _ _ _ _ _ _ _ underlying40 rfl sz3 rfl rfl rfl),zp rfl (op_load_e _ _ _ _ _ _ underlying3 rfl rfl rfl (flat_cell T_Tok.len hv13 rfl)),zp rfl ((Option.some.inj hv14) ▸ op_max _ _ _ _ rfl rfl),zp rfl (oB rfl (ibind (f := Value.int .i64) (Option.some.inj hv15))),zp rfl (LOp.drop [_] (op_assign _ _ _ _ rfl rfl)),zz⟩ ?_
      refine pt_inb ?_
      refine pt_then ?_
      obtain ⟨v16, hv16, h⟩ := bind_some h
      refine zg hn [_,_,_,_,_,(33,vi s21),(34,vi v16),(9,vi v16)] [0,1,2,3,4] [0,1,2,4,7] [zq [3] 5 33,zq [5] 6 34,⟨[6],[3],[7],[(.slot 9)]⟩] [(_,_),(_,_),(_,_),(_,_),(_,_)] rfl ⟨z1 rfl,zp rfl (oB rfl (ibind (f := Value.int .i64) (Option.some.inj hv16))),zp rfl (LOp.drop [_] (op_assign _ _ _ _ rfl rfl)),zz⟩ ?_
      exact pt_next _ (Option.some.inj h).symm rfl
     ·have h := cond_f hb30 h
      refine ht_exit ?_
      refine pt_x_then ?_
      refine pt_x_then ?_
      refine pt_x_in ?_
      refine pt_pick [0, 1, 2, 3] (by kernel_rfl) (es' := [(_,_),(_,_),(_,_),(_,_)]) rfl ?_
      exact hl25 _ (ho27 _ (Option.some.inj h).symm).symm
  ·intro u2 h hl3 hr4
   refine cond_some h (fun hg1_3 h => ?_) (fun hg1_3 h => ?_)
   ·refine zg hn [_,_,_,(13,.fl .shr 1 (List.map (Value.int .u8) b)),(14,vi (b.length : Int)),(15,vb (decide (1200 < (b.length : Int)))),(16,vb true),(17,.v undef),(18,.v undef),(19,.v undef),(20,vb true)] [0,1,2] [0,1,2,10] [zq [0] 3 13,zq [3] 4 14,zq [4] 5 15,zq [5] 6 16,zq [6] 7 17,zq [6] 8 18,zq [6] 9 19,zq [6] 10 20] [(_,_),(_,_),(_,_),(_,_)] rfl ⟨z1 rfl,zp rfl (op_len_fl _ _ _ underlying22 rfl (by decide) (map_len _)),z4 rfl rfl,z8 hg1_3 rfl,zf rfl,zf rfl,zf rfl,z3 true rfl,zz⟩ ?_
    exact hl3 _ (Option.some.inj h).symm
   ·refine zg hn [_,_,_,(13,.fl .shr 1 (List.map (Value.int .u8) b)),(14,vi (b.length : Int)),(15,vb (decide (1200 < (b.length : Int)))),(16,vb false),(17,.fl .shr 1 (List.map (Value.int .u8) b)),(18,vi (b.length : Int)),(19,vb ((b.length : Int) == 0)),(20,vb ((b.length : Int) == 0))] [0,1,2] [0,1,2,10] [zq [0] 3 13,zq [3] 4 14,zq [4] 5 15,zq [5] 6 16,zq [6,0] 7 17,zq [6,7] 8 18,zq [6,8] 9 19,zq [6,9] 10 20] [(_,_),(_,_),(_,_),(_,_)] rfl ⟨z1 rfl,zp rfl (op_len_fl _ _ _ underlying22 rfl (by decide) (map_len _)),z4 rfl rfl,z8 hg1_3 rfl,zr' rfl (oM rfl),zr' rfl (op_len_fl _ _ _ underlying22 rfl (by decide) (map_len _)),zr' rfl (oB rfl rfl),z3 false rfl,zz⟩ ?_
    exact hl3 _ (Option.some.inj h).symm

end Go.Proofs.Ytepkcpjfogjfhaa
