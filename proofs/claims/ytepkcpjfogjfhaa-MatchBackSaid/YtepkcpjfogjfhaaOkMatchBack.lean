/-
  The model's runs are what is told in Lean.
-/
import Derived.Test.YtepkcpjfogjfhaaProg
import Derived.KernelRfl
import Derived.Test.YtepkcpjfogjfhaaB2
import Derived.Test.YtepkcpjfogjfhaaOkc1
set_option linter.unusedVariables false
set_option linter.unusedSimpArgs false
set_option maxHeartbeats 1000000
namespace Go.Proofs.Ytepkcpjfogjfhaa
open Go.Abs Go.Abs.Sh Try

theorem ok_wherrylaw04_MatchBack (b : (List Int)) (r : Bool) (h : Sh.wherrylaw04_MatchBack b = some r) : FnOK Try.prog 4 [.fl .shr 1 (List.map (Value.int .u8) b)] (.v (.bool r)) := by
  unfold Sh.wherrylaw04_MatchBack at h
  refine fn_ok func4 rfl (zl rfl) rfl rfl fun g0 hn hio => ?_
  refine zgg hn [_,(2,vb false)] [0] [0] [zq [] 1 2] [(_,_)] rfl ⟨z2 rfl,zz⟩ ?_
  refine ht_seq ?_
  refine zgg hn [_,(9,.fl .shr 1 (List.map (Value.int .u8) b)),(10,vi (b.length : Int)),(11,vb (decide (1200 < (b.length : Int))))] [0] [0,3] [zq [0] 1 9,zq [1] 2 10,zq [2] 3 11] [(_,_),(_,_)] rfl ⟨z1 rfl,zp rfl (op_len_fl _ _ _ underlying22 rfl (by decide) (map_len _)),z4 rfl rfl,zz⟩ ?_
  refine ht_cond _ rfl (fun hb1 => ?_) (fun hb1 => ?_)
  ·have h := cond_t hb1 h
   refine zgg hn [_,_,(2,vb true)] [0,1] [2] [zq [] 2 2] [(_,_)] rfl ⟨z2 rfl,zz⟩ ?_
   refine ht_ret ?_
   refine pt_r_then ?_
   obtain rfl := Option.some.inj h
   exact pt_ret hio rfl (.tmp _ _ .nil) rfl rfl
  ·have h := cond_f hb1 h
   refine ht_skip ?_
   refine pt_then (ht_seq ?_)
   obtain ⟨v2, hv2, h⟩ := bind_some h
   refine zg hn [_,_,(13,.fl .shr 1 (List.map (Value.int .u8) b)),(14,.tup [.fl (.own 40) 3 (List.flatten (List.map T_Tok.enc v2.1)),vi v2.2]),(12,.tup [.fl (.own 40) 3 (List.flatten (List.map T_Tok.enc v2.1)),vi v2.2]),(15,.fl (.own 40) 3 (List.flatten (List.map T_Tok.enc v2.1))),(12,.tup [.any,vi v2.2]),(16,vi v2.2),(3,.fl (.own 40) 3 (List.flatten (List.map T_Tok.enc v2.1))),(4,vi v2.2)] [0,1] [0,8,9] [zq [0] 2 13,zq [2] 3 14,⟨[],[3],[4],[(.slot 12)]⟩,⟨[],[4],[6,5],[(.slot 15)]⟩,zq [6] 7 16,⟨[],[5],[8],[(.slot 3)]⟩,zq [7] 9 4] [(_,_),(_,_),(_,_)] rfl ⟨z1 rfl,zp rfl (op_call _ _ 14 _ _ rfl call14 rfl (ok_match_Tokens b _ hv2) rfl rfl),zp rfl (op_move_take _ _ _ _ rfl),zp rfl (op_extract_take _ _ _ _ _ rfl (zl rfl) rfl rfl (by decide) rfl),zp rfl (oE rfl),zp rfl (op_assign_take _ _ _ _ rfl),z2 rfl,zz⟩ ?_
   refine pt_then (ht_seq ?_)
   refine ht_seq ?_
   refine ht_joinS h (fun (s4 : Bool) => [(0, .fl .shr 1 (List.map (Value.int .u8) b)), (3, .fl (.own 40) 3 (List.flatten (List.map T_Tok.enc v2.1))), (23, .v (.bool s4))]) ?_ ?_
   ·rintro s4 h
    refine pt_then ?_
    refine ht_cond _ rfl (fun hb8 => ?_) (fun hb8 => ?_)
    ·have h := cond_t hb8 h
     refine zgg hn [_,_,_,(2,vb false)] [0,1,2] [3] [zq [] 3 2] [(_,_)] rfl ⟨z2 rfl,zz⟩ ?_
     refine ht_ret ?_
     refine pt_r_then ?_
     obtain rfl := Option.some.inj h
     exact pt_ret hio rfl (.tmp _ _ .nil) rfl rfl
    ·have h := cond_f hb8 h
     refine ht_skip ?_
     refine pt_then (ht_seq ?_)
     obtain ⟨v9, hv9, h⟩ := bind_some h
     refine zg hn [_,_,_,(25,.same (.slot 3)),(26,.tup [.fl (.own 5) 1 (List.map (Value.int .u8) v9.1),vi v9.2]),(24,.tup [.fl (.own 5) 1 (List.map (Value.int .u8) v9.1),vi v9.2]),(27,.fl (.own 5) 1 (List.map (Value.int .u8) v9.1)),(24,.tup [.any,vi v9.2]),(28,vi v9.2),(5,.fl (.own 5) 1 (List.map (Value.int .u8) v9.1)),(6,vi v9.2)] [0,1,2] [0,1,9,10] [zq [1] 3 25,zq [3,1] 4 26,⟨[],[4],[5],[(.slot 24)]⟩,⟨[],[5],[7,6],[(.slot 27)]⟩,zq [7] 8 28,⟨[],[6],[9],[(.slot 5)]⟩,zq [8] 10 6] [(_,_),(_,_),(_,_),(_,_)] rfl ⟨z1 rfl,zp rfl (op_call _ _ 18 _ _ rfl call18 rfl (ok_match_Expand v2.1 _ hv9) rfl rfl),zp rfl (op_move_take _ _ _ _ rfl),zp rfl (op_extract_take _ _ _ _ _ rfl (zl rfl) rfl rfl (by decide) rfl),zp rfl (oE rfl),zp rfl (op_assign_take _ _ _ _ rfl),z2 rfl,zz⟩ ?_
     refine pt_then ?_
     refine zgg hn [_,_,_,_,(7,vi 0)] [0,1,2,3] [0,1,2,3,4] [zq [] 4 7] [(_,_),(_,_),(_,_),(_,_),(_,_)] rfl ⟨z2 rfl,zz⟩ ?_
     refine ht_seq ?_
     refine zgg hn [_,_,_,_,_,(8,vi 0)] [0,1,2,3,4] [0,1,2,3,4,5] [zq [] 5 8] [(_,_),(_,_),(_,_),(_,_),(_,_),(_,_)] rfl ⟨z2 rfl,zz⟩ ?_
     refine ht_loopS h (fun ((s19, s20) : Int × Int) => [(0, .fl .shr 1 (List.map (Value.int .u8) b)), (3, .fl (.own 40) 3 (List.flatten (List.map T_Tok.enc v2.1))), (5, .fl (.own 5) 1 (List.map (Value.int .u8) v9.1)), (6, .v (.int .i64 v9.2)), (7, .v (.int .i64 s19)), (8, .v (.int .i64 s20))]) (fun (s22 : Int) => [(0, .fl .shr 1 (List.map (Value.int .u8) b)), (5, .fl (.own 5) 1 (List.map (Value.int .u8) v9.1)), (6, .v (.int .i64 v9.2)), (7, .v (.int .i64 s22))]) ?_ ?_
     ·rintro s22 h
      refine pt_then (ht_seq ?_)
      refine ht_joinS h (fun (s32 : Bool) => [(2, .v (.bool s32))]) ?_ ?_
      ·rintro s32 h
       refine pt_then (ht_ret ?_)
       obtain rfl := Option.some.inj h
       exact pt_ret hio rfl (.tmp _ _ .nil) rfl rfl
      ·intro u33 h hl34 hr35
       refine cond_some h (fun hg12_2 h => ?_) (fun hg12_2 h => ?_)
       ·obtain ⟨v30, hv30, h⟩ := bind_some h
        refine cond_some h (fun hg12_7 h => ?_) (fun hg12_7 h => ?_)
        ·refine cond_some h (fun hg12_13 h => ?_) (fun hg12_13 h => ?_)
         ·obtain ⟨v31, hv31, h⟩ := bind_some h
          refine zg hn (_::_::_::_::(43,vi v9.2)::(44,vb (v9.2 == 0))::(45,vb true)::(46,.fl (.own 5) 1 (List.map (Value.int .u8) v9.1))::(47,.fl .shr 1 (List.map (Value.int .u8) b))::(48,vb v30)::(49,vb v30)::(50,vb true)::(51,vi s22)::(52,.fl .shr 1 (List.map (Value.int .u8) b))::(53,vi (b.length : Int))::(54,vb (s22 == (b.length : Int)))::(55,vb (s22 == (b.length : Int)))::(56,vb true)::(57,vb v31)::(58,vb v31)::(2,vb v31)::[]) [0,1,2,3] [20] (zq [2] 4 43::zq [4] 5 44::zq [5] 6 45::⟨[6],[1],[7],[(.slot 46)]⟩::zq [6,0] 8 47::zq [6,7,8] 9 48::zq [6,9] 10 49::zq [10] 11 50::zq [11,3] 12 51::zq [11,0] 13 52::zq [11,13] 14 53::zq [11,12,14] 15 54::zq [11,15] 16 55::zq [16] 17 56::zq [17] 18 57::zq [17,18] 19 58::zq [19] 20 2::[]) [(_,_)] rfl ⟨z1 rfl,z4 rfl rfl,z8 hg12_2 rfl,zr' rfl (op_move_take _ _ _ _ rfl),zr' rfl (oM rfl),zr' rfl (op_call _ _ 21 _ _ rfl call21 rfl (ok_wherrykeep_Bytes v9.1 b _ hv30) rfl rfl),z3 true rfl,z8 hg12_7 rfl,zr' rfl (oM rfl),zr' rfl (oM rfl),zr' rfl (op_len_fl _ _ _ underlying22 rfl (by decide) (map_len _)),zr' rfl (oB rfl rfl),z3 true rfl,z8 hg12_13 rfl,zr' rfl (op_call _ _ 25 _ _ rfl call25 rfl (ok_wherrylaw04_wakes  _ hv31) rfl rfl),z3 true rfl,z2 rfl,zz⟩ ?_
          exact hl34 _ (Option.some.inj h).symm
         ·refine zg hn (_::_::_::_::(43,vi v9.2)::(44,vb (v9.2 == 0))::(45,vb true)::(46,.fl (.own 5) 1 (List.map (Value.int .u8) v9.1))::(47,.fl .shr 1 (List.map (Value.int .u8) b))::(48,vb v30)::(49,vb v30)::(50,vb true)::(51,vi s22)::(52,.fl .shr 1 (List.map (Value.int .u8) b))::(53,vi (b.length : Int))::(54,vb (s22 == (b.length : Int)))::(55,vb (s22 == (b.length : Int)))::(56,vb false)::(57,.v undef)::(58,vb false)::(2,vb false)::[]) [0,1,2,3] [20] (zq [2] 4 43::zq [4] 5 44::zq [5] 6 45::⟨[6],[1],[7],[(.slot 46)]⟩::zq [6,0] 8 47::zq [6,7,8] 9 48::zq [6,9] 10 49::zq [10] 11 50::zq [11,3] 12 51::zq [11,0] 13 52::zq [11,13] 14 53::zq [11,12,14] 15 54::zq [11,15] 16 55::zq [16] 17 56::zq [17] 18 57::zq [17] 19 58::zq [19] 20 2::[]) [(_,_)] rfl ⟨z1 rfl,z4 rfl rfl,z8 hg12_2 rfl,zr' rfl (op_move_take _ _ _ _ rfl),zr' rfl (oM rfl),zr' rfl (op_call _ _ 21 _ _ rfl call21 rfl (ok_wherrykeep_Bytes v9.1 b _ hv30) rfl rfl),z3 true rfl,z8 hg12_7 rfl,zr' rfl (oM rfl),zr' rfl (oM rfl),zr' rfl (op_len_fl _ _ _ underlying22 rfl (by decide) (map_len _)),zr' rfl (oB rfl rfl),z3 true rfl,z8 hg12_13 rfl,zt rfl,z3 false rfl,z2 rfl,zz⟩ ?_
          exact hl34 _ (Option.some.inj h).symm
        ·refine zg hn (_::_::_::_::(43,vi v9.2)::(44,vb (v9.2 == 0))::(45,vb true)::(46,.fl (.own 5) 1 (List.map (Value.int .u8) v9.1))::(47,.fl .shr 1 (List.map (Value.int .u8) b))::(48,vb v30)::(49,vb v30)::(50,vb false)::(51,.v undef)::(52,.v undef)::(53,.v undef)::(54,.v undef)::(55,vb false)::(56,vb false)::(57,.v undef)::(58,vb false)::(2,vb false)::[]) [0,1,2,3] [20] (zq [2] 4 43::zq [4] 5 44::zq [5] 6 45::⟨[6],[1],[7],[(.slot 46)]⟩::zq [6,0] 8 47::zq [6,7,8] 9 48::zq [6,9] 10 49::zq [10] 11 50::zq [11] 12 51::zq [11] 13 52::zq [11] 14 53::zq [11] 15 54::zq [11] 16 55::zq [16] 17 56::zq [17] 18 57::zq [17] 19 58::zq [19] 20 2::[]) [(_,_)] rfl ⟨z1 rfl,z4 rfl rfl,z8 hg12_2 rfl,zr' rfl (op_move_take _ _ _ _ rfl),zr' rfl (oM rfl),zr' rfl (op_call _ _ 21 _ _ rfl call21 rfl (ok_wherrykeep_Bytes v9.1 b _ hv30) rfl rfl),z3 true rfl,z8 hg12_7 rfl,zt rfl,zt rfl,zt rfl,zt rfl,z3 false rfl,z1 rfl,zt rfl,z3 false rfl,z2 rfl,zz⟩ ?_
         exact hl34 _ (Option.some.inj h).symm
       ·refine zg hn (_::_::_::_::(43,vi v9.2)::(44,vb (v9.2 == 0))::(45,vb false)::(46,.v undef)::(47,.v undef)::(48,.v undef)::(49,vb false)::(50,vb false)::(51,.v undef)::(52,.v undef)::(53,.v undef)::(54,.v undef)::(55,vb false)::(56,vb false)::(57,.v undef)::(58,vb false)::(2,vb false)::[]) [0,1,2,3] [20] (zq [2] 4 43::zq [4] 5 44::zq [5] 6 45::zq [6] 7 46::zq [6] 8 47::zq [6] 9 48::zq [6] 10 49::zq [10] 11 50::zq [11] 12 51::zq [11] 13 52::zq [11] 14 53::zq [11] 15 54::zq [11] 16 55::zq [16] 17 56::zq [17] 18 57::zq [17] 19 58::zq [19] 20 2::[]) [(_,_)] rfl ⟨z1 rfl,z4 rfl rfl,z8 hg12_2 rfl,zt rfl,zt rfl,zt rfl,z3 false rfl,z1 rfl,zt rfl,zt rfl,zt rfl,zt rfl,z3 false rfl,z1 rfl,zt rfl,z3 false rfl,z2 rfl,zz⟩ ?_
        exact hl34 _ (Option.some.inj h).symm
     ·rintro u23 hl24 hr25 ⟨s19, s20⟩ rr28 h ho26
      refine ht_seq ?_
      refine zgg hn [_,_,_,_,_,_,(29,vi s20),(30,.same (.slot 3)),(31,vi (v2.1.length : Int)),(32,vb (decide (s20 < (v2.1.length : Int))))] [0,1,2,3,4,5] [0,1,2,3,4,5,9] [zq [5] 6 29,zq [1] 7 30,zq [7,1] 8 31,zq [6,8] 9 32] [(_,_),(_,_),(_,_),(_,_),(_,_),(_,_),(_,_)] rfl ⟨z1 rfl,z1 rfl,zp rfl (op_len_fl _ _ _ underlying23 rfl (by decide) (flat_len T_Tok.len _)),z4 rfl rfl,zz⟩ ?_
      refine ht_cond _ rfl (fun hb29 => ?_) (fun hb29 => ?_)
      ·have h := cond_t hb29 h
       refine ht_skip ?_
       refine pt_then (ht_seq ?_)
       refine ht_block ?_
       obtain ⟨v11, hv11, h⟩ := bind_some h
       obtain ⟨v12, hv12, h⟩ := bind_some h
       obtain ⟨v13, hv13, h⟩ := bind_some h
       obtain ⟨v14, hv14, h⟩ := bind_some h
       refine zg hn (_::_::_::_::_::_::_::(35,vi s19)::(36,.same (.slot 3))::(37,vi s20)::(38,.eref (.slot 3) (v11 * 3))::(39,.eref (.slot 3) (v11 * 3 + 1))::(40,vi v12.Len)::(41,vi v13)::(42,vi v14)::(7,vi v14)::[]) [0,1,2,3,4,5,6] [0,1,2,3,5,15] [zq [4] 7 35,zq [1] 8 36,zq [5] 9 37,zq [8,1,9] 10 38,zq [10,1] 11 39,zq [11,1] 12 40,zq [12] 13 41,zq [7,13] 14 42,⟨[14],[4],[15],[(.slot 7)]⟩] [(_,_),(_,_),(_,_),(_,_),(_,_),(_,_)] rfl ⟨z1 rfl,z1 rfl,z1 rfl,zp rfl (op_ix _ _ _ _ _ _ _ _ underlying23 sz40 (by decide) rfl rfl rfl (ix_ok hv11).1 (flat_lt T_Tok.len (ix_ok hv11).2) rfl),zp rfl (op_fieldAddr_e _ _ _ _ _ _ _ underlying40 rfl sz3 rfl rfl rfl),zp rfl (op_load_e _ _ _ _ _ _ underlying3 rfl rfl rfl (flat_cell T_Tok.len hv12 rfl)),zp rfl ((Option.some.inj hv13) ▸ op_max _ _ _ _ rfl rfl),zp rfl (oB rfl (ibind (f := Value.int .i64) (Option.some.inj hv14))),zp rfl (LOp.drop [_] (op_assign _ _ _ _ rfl rfl)),zz⟩ ?_
       refine pt_inb ?_
       refine pt_then ?_
       obtain ⟨v15, hv15, h⟩ := bind_some h
       refine zg hn [_,_,_,_,_,_,(33,vi s20),(34,vi v15),(8,vi v15)] [0,1,2,3,4,5] [0,1,2,3,5,8] [zq [4] 6 33,zq [6] 7 34,⟨[7],[4],[8],[(.slot 8)]⟩] [(_,_),(_,_),(_,_),(_,_),(_,_),(_,_)] rfl ⟨z1 rfl,zp rfl (oB rfl (ibind (f := Value.int .i64) (Option.some.inj hv15))),zp rfl (LOp.drop [_] (op_assign _ _ _ _ rfl rfl)),zz⟩ ?_
       exact pt_next _ (Option.some.inj h).symm rfl
      ·have h := cond_f hb29 h
       refine ht_exit ?_
       refine pt_x_then ?_
       refine pt_x_then ?_
       refine pt_x_in ?_
       refine pt_pick [0, 2, 3, 4] (by kernel_rfl) (es' := [(_,_),(_,_),(_,_),(_,_)]) rfl ?_
       exact hl24 _ (ho26 _ (Option.some.inj h).symm).symm
   ·intro u5 h hl6 hr7
    refine cond_some h (fun hg4_2 h => ?_) (fun hg4_2 h => ?_)
    ·refine zg hn [_,_,_,(17,vi v2.2),(18,vb (v2.2 != 0)),(19,vb true),(20,.v undef),(21,.v undef),(22,.v undef),(23,vb true)] [0,1,2] [0,1,9] [zq [2] 3 17,zq [3] 4 18,zq [4] 5 19,zq [5] 6 20,zq [5] 7 21,zq [5] 8 22,zq [5] 9 23] [(_,_),(_,_),(_,_)] rfl ⟨z1 rfl,z4 rfl rfl,z8 hg4_2 rfl,zf rfl,zf rfl,zf rfl,z3 true rfl,zz⟩ ?_
     exact hl6 _ (Option.some.inj h).symm
    ·obtain ⟨v3, hv3, h⟩ := bind_some h
     refine zg hn [_,_,_,(17,vi v2.2),(18,vb (v2.2 != 0)),(19,vb false),(20,.same (.slot 3)),(21,vi v3),(22,vb (v3 != 0)),(23,vb (v3 != 0))] [0,1,2] [0,1,9] [zq [2] 3 17,zq [3] 4 18,zq [4] 5 19,zq [5,1] 6 20,zq [5,6,1] 7 21,zq [5,7] 8 22,zq [5,8] 9 23] [(_,_),(_,_),(_,_)] rfl ⟨z1 rfl,z4 rfl rfl,z8 hg4_2 rfl,zr' rfl (oM rfl),zr' rfl (op_call _ _ 22 _ _ rfl call22 rfl (ok_match_Check v2.1 _ hv3) rfl rfl),zr' rfl (oB rfl rfl),z3 false rfl,zz⟩ ?_
     exact hl6 _ (Option.some.inj h).symm

end Go.Proofs.Ytepkcpjfogjfhaa
