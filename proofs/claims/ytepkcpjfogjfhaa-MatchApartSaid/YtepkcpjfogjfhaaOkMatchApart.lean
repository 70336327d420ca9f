/-
  The model's runs are what is told in Lean.
-/
import Derived.Test.YtepkcpjfogjfhaaProg
import Derived.KernelRfl
import Derived.Test.YtepkcpjfogjfhaaB2
import Derived.Test.YtepkcpjfogjfhaaOkc1
set_option linter.unusedVariables false
set_option linter.unusedSimpArgs false
set_option maxHeartbeats 1000000
namespace Go.Proofs.Ytepkcpjfogjfhaa
open Go.Abs Go.Abs.Sh Try

theorem ok_wherrylaw04_MatchApart (from_ : Int) (n : Int) (r : Bool) (h : Sh.wherrylaw04_MatchApart from_ n = some r) : FnOK Try.prog 9 [.v (.int .i64 from_), .v (.int .i64 n)] (.v (.bool r)) := by
  unfold Sh.wherrylaw04_MatchApart at h
  refine fn_ok func9 rfl (zl rfl) rfl rfl fun g0 hn hio => ?_
  refine zgg hn [_,_,(4,vb false)] [0,1] [0,1] [zq [] 2 4] [(_,_),(_,_)] rfl ⟨z2 rfl,zz⟩ ?_
  refine ht_seq ?_
  obtain ⟨v1, hv1, h⟩ := bind_some h
  obtain ⟨v2, hv2, h⟩ := bind_some h
  obtain ⟨v3, hv3, h⟩ := bind_some h
  obtain ⟨v4, hv4, h⟩ := bind_some h
  obtain ⟨v5, hv5, h⟩ := bind_some h
  obtain ⟨v6, hv6, h⟩ := bind_some h
  refine zg hn [_,_,(10,vi from_),(11,.v (.int .u64 v1)),(12,.v (.int .u64 v2)),(13,vi v3),(14,vi n),(15,.v (.int .u64 v4)),(16,.v (.int .u64 v5)),(17,vi v6),(0,vi v3),(1,vi v6)] [0,1] [10,11] [zq [0] 2 10,zq [2] 3 11,zq [3] 4 12,zq [4] 5 13,zq [1] 6 14,zq [6] 7 15,zq [7] 8 16,zq [8] 9 17,⟨[5],[0],[10],[(.slot 0)]⟩,⟨[9],[1],[11],[(.slot 1)]⟩] [(_,_),(_,_)] rfl ⟨z1 rfl,zp rfl ((Option.some.inj hv1) ▸ op_conv _ _ _ underlying3 underlying42 rfl),zp rfl (oB rfl (rem_ok hv2)),zp rfl ((Option.some.inj hv3) ▸ op_conv _ _ _ underlying42 underlying3 rfl),z1 rfl,zp rfl ((Option.some.inj hv4) ▸ op_conv _ _ _ underlying3 underlying42 rfl),zp rfl (oB rfl (rem_ok hv5)),zp rfl ((Option.some.inj hv6) ▸ op_conv _ _ _ underlying42 underlying3 rfl),zp rfl (LOp.drop [_] (op_assign _ _ _ _ rfl rfl)),zp rfl (LOp.drop [_] (op_assign _ _ _ _ rfl rfl)),zz⟩ ?_
  refine pt_then ?_
  refine zgg hn [_,_,(5,.v (.slice none 0 0))] [0,1] [0,1,2] [zq [] 2 5] [(_,_),(_,_),(_,_)] rfl ⟨z2 rfl,zz⟩ ?_
  refine ht_seq ?_
  refine zgg hn [_,_,_,(6,vi 0)] [0,1,2] [0,1,2,3] [zq [] 3 6] [(_,_),(_,_),(_,_),(_,_)] rfl ⟨z2 rfl,zz⟩ ?_
  refine ht_sub (fs := [(0, .v (.int .i64 v3)), (1, .v (.int .i64 v6)), (5, .fl (.own 5) 1 (List.map (Value.int .u8) [])), (6, .v (.int .i64 0))]) (.same _ (.same _ (.sub _ (sub_nil 5 1) rfl (.same _ .nil)))) ?_
  refine ht_loopS h (fun ((s15, s16) : (List Int) × Int) => [(0, .v (.int .i64 v3)), (1, .v (.int .i64 v6)), (5, .fl (.own 5) 1 (List.map (Value.int .u8) s15)), (6, .v (.int .i64 s16))]) (fun (s18 : (List Int)) => [(1, .v (.int .i64 v6)), (5, .fl (.own 5) 1 (List.map (Value.int .u8) s18))]) ?_ ?_
  ·rintro s18 h
   refine pt_then (ht_seq ?_)
   obtain ⟨v26, hv26, h⟩ := bind_some h
   refine zg hn [_,_,(31,.same (.slot 5)),(32,.tup [.fl (.own 40) 3 (List.flatten (List.map T_Tok.enc v26.1)),vi v26.2]),(30,.tup [.fl (.own 40) 3 (List.flatten (List.map T_Tok.enc v26.1)),vi v26.2]),(33,.fl (.own 40) 3 (List.flatten (List.map T_Tok.enc v26.1))),(30,.tup [.any,vi v26.2]),(34,vi v26.2),(7,.fl (.own 40) 3 (List.flatten (List.map T_Tok.enc v26.1))),(8,vi v26.2)] [0,1] [0,1,8,9] [zq [1] 2 31,zq [2,1] 3 32,⟨[],[3],[4],[(.slot 30)]⟩,⟨[],[4],[6,5],[(.slot 33)]⟩,zq [6] 7 34,⟨[],[5],[8],[(.slot 7)]⟩,zq [7] 9 8] [(_,_),(_,_),(_,_),(_,_)] rfl ⟨z1 rfl,zp rfl (op_call _ _ 14 _ _ rfl call14 rfl (ok_match_Tokens s18 _ hv26) rfl rfl),zp rfl (op_move_take _ _ _ _ rfl),zp rfl (op_extract_take _ _ _ _ _ rfl (zl rfl) rfl rfl (by decide) rfl),zp rfl (oE rfl),zp rfl (op_assign_take _ _ _ _ rfl),z2 rfl,zz⟩ ?_
   refine pt_then (ht_seq ?_)
   refine ht_seq ?_
   refine ht_joinS h (fun (s27 : Bool) => [(1, .v (.int .i64 v6)), (5, .fl (.own 5) 1 (List.map (Value.int .u8) s18)), (7, .fl (.own 40) 3 (List.flatten (List.map T_Tok.enc v26.1))), (42, .v (.bool s27))]) ?_ ?_
   ·rintro s27 h
    refine pt_then ?_
    refine ht_cond _ rfl (fun hb31 => ?_) (fun hb31 => ?_)
    ·have h := cond_t hb31 h
     refine zgg hn [_,_,_,_,(4,vb false)] [0,1,2,3] [4] [zq [] 4 4] [(_,_)] rfl ⟨z2 rfl,zz⟩ ?_
     refine ht_ret ?_
     refine pt_r_then ?_
     obtain rfl := Option.some.inj h
     exact pt_ret hio rfl (.tmp _ _ .nil) rfl rfl
    ·have h := cond_f hb31 h
     refine ht_skip ?_
     refine pt_then (ht_seq ?_)
     refine zgg hn [_,_,_,_,(9,vi 0)] [0,1,2,3] [0,1,2,4] [zq [] 4 9] [(_,_),(_,_),(_,_),(_,_)] rfl ⟨z2 rfl,zz⟩ ?_
     refine ht_loopS h (fun (s52 : Int) => [(1, .v (.int .i64 v6)), (5, .fl (.own 5) 1 (List.map (Value.int .u8) s18)), (7, .fl (.own 40) 3 (List.flatten (List.map T_Tok.enc v26.1))), (9, .v (.int .i64 s52))]) (fun (() : Unit) => []) ?_ ?_
     ·rintro ⟨⟩ h
      refine pt_then (ht_seq ?_)
      obtain ⟨v71, hv71, h⟩ := bind_some h
      refine zg hn [(66,vb v71),(4,vb v71)] [] [1] [zq [] 0 66,zq [0] 1 4] [(_,_)] rfl ⟨zp rfl (op_call _ _ 25 _ _ rfl call25 rfl (ok_wherrylaw04_wakes  _ hv71) rfl rfl),z2 rfl,zz⟩ ?_
      refine pt_then (ht_ret ?_)
      obtain rfl := Option.some.inj h
      exact pt_ret hio rfl (.tmp _ _ .nil) rfl rfl
     ·rintro u59 hl60 hr61 s52 rr64 h ho62
      refine ht_seq ?_
      refine zgg hn [_,_,_,_,(43,vi s52),(44,vi v6),(45,vb (decide (s52 < v6)))] [0,1,2,3] [0,1,2,3,6] [zq [3] 4 43,zq [0] 5 44,zq [4,5] 6 45] [(_,_),(_,_),(_,_),(_,_),(_,_)] rfl ⟨z1 rfl,z1 rfl,z4 rfl rfl,zz⟩ ?_
      refine ht_cond _ rfl (fun hb65 => ?_) (fun hb65 => ?_)
      ·have h := cond_t hb65 h
       refine ht_skip ?_
       refine pt_then (ht_seq ?_)
       refine ht_block ?_
       refine ht_seq ?_
       refine ht_joinS h (fun (s66 : Bool) => [(1, .v (.int .i64 v6)), (5, .fl (.own 5) 1 (List.map (Value.int .u8) s18)), (7, .fl (.own 40) 3 (List.flatten (List.map T_Tok.enc v26.1))), (9, .v (.int .i64 s52)), (65, .v (.bool s66))]) ?_ ?_
       ·rintro s66 h
        refine pt_then ?_
        refine ht_cond _ rfl (fun hb70 => ?_) (fun hb70 => ?_)
        ·have h := cond_t hb70 h
         refine zgg hn [_,_,_,_,_,(4,vb false)] [0,1,2,3,4] [5] [zq [] 5 4] [(_,_)] rfl ⟨z2 rfl,zz⟩ ?_
         refine ht_ret ?_
         refine pt_r_in ?_
         refine pt_r_then ?_
         refine pt_r_then ?_
         refine pt_r_in ?_
         refine pt_r_then ?_
         have h := hr61 _ (ho62 _ (Option.some.inj h).symm).symm
         obtain rfl := Option.some.inj h
         exact pt_ret hio rfl (.tmp _ _ .nil) rfl rfl
        ·have h := cond_f hb70 h
         refine ht_skip ?_
         refine pt_inb ?_
         refine pt_then ?_
         obtain ⟨v44, hv44, h⟩ := bind_some h
         refine zg hn [_,_,_,_,_,(46,vi s52),(47,vi v44),(9,vi v44)] [0,1,2,3,4] [0,1,2,7] [zq [3] 5 46,zq [5] 6 47,⟨[6],[3],[7],[(.slot 9)]⟩] [(_,_),(_,_),(_,_),(_,_)] rfl ⟨z1 rfl,zp rfl (oB rfl (ibind (f := Value.int .i64) (Option.some.inj hv44))),zp rfl (LOp.drop [_] (op_assign _ _ _ _ rfl rfl)),zz⟩ ?_
         exact pt_next _ (Option.some.inj h).symm rfl
       ·intro u67 h hl68 hr69
        obtain ⟨v33, hv33, h⟩ := bind_some h
        obtain ⟨v34, hv34, h⟩ := bind_some h
        refine cond_some h (fun hg13_6 h => ?_) (fun hg13_6 h => ?_)
        ·refine ht_anyR (by kernel_rfl) hn (El := (_ :: _ :: _ :: _ :: _ :: (48, .same (.slot 7)) :: (49, .v (.int .i64 s52)) :: (50, .eref (.slot 7) (v33 * 3)) :: (51, .eref (.slot 7) (v33 * 3 + 1)) :: (52, .v (.int .i64 v34.Len)) :: (53, .v (.bool (v34.Len != 0))) :: (54, .v (.bool true)) :: (55, .v undef) :: (56, .v undef) :: (57, .v undef) :: (58, .v undef) :: (59, .v undef) :: (60, .v undef) :: (61, .v undef) :: (62, .v undef) :: (63, .v undef) :: (64, .v undef) :: (65, .v (.bool true)) :: [])) (init := [0, 1, 2, 3, 4]) (fin := [0, 1, 2, 3, 22]) (sps := (zq [2] 5 48 :: zq [3] 6 49 :: zq [5,2,6] 7 50 :: zq [7,2] 8 51 :: zq [8,2] 9 52 :: zq [9] 10 53 :: zq [10] 11 54 :: zq [11] 12 55 :: zq [11] 13 56 :: zq [11] 14 57 :: zq [11] 15 58 :: zq [11] 16 59 :: zq [11] 17 60 :: zq [11] 18 61 :: zq [11] 19 62 :: zq [11] 20 63 :: zq [11] 21 64 :: zq [11] 22 65 :: [])) (es' := [(_,_),(_,_),(_,_),(_,_),(65, .v (.bool true))]) (by kernel_rfl) rfl rfl ⟨z1 rfl,z1 rfl,zp rfl (op_ix _ _ _ _ _ _ _ _ underlying23 sz40 (by decide) rfl rfl rfl (ix_ok hv33).1 (flat_lt T_Tok.len (ix_ok hv33).2) rfl),zp rfl (op_fieldAddr_e _ _ _ _ _ _ _ underlying40 rfl sz3 rfl rfl rfl),zp rfl (op_load_e _ _ _ _ _ _ underlying3 rfl rfl rfl (flat_cell T_Tok.len hv34 rfl)),z4 rfl rfl,z8 hg13_6 rfl,zf rfl,zf rfl,zf rfl,zf rfl,zf rfl,zf rfl,zf rfl,zf rfl,zf rfl,zf rfl,z3 true rfl,zz⟩ ?_
         exact hl68 _ (Option.some.inj h).symm
        ·obtain ⟨v35, hv35, h⟩ := bind_some h
         obtain ⟨v36, hv36, h⟩ := bind_some h
         obtain ⟨v37, hv37, h⟩ := bind_some h
         obtain ⟨v38, hv38, h⟩ := bind_some h
         refine ht_anyR (by kernel_rfl) hn (El := (_ :: _ :: _ :: _ :: _ :: (48, .same (.slot 7)) :: (49, .v (.int .i64 s52)) :: (50, .eref (.slot 7) (v33 * 3)) :: (51, .eref (.slot 7) (v33 * 3 + 1)) :: (52, .v (.int .i64 v34.Len)) :: (53, .v (.bool (v34.Len != 0))) :: (54, .v (.bool false)) :: (55, .same (.slot 7)) :: (56, .v (.int .i64 s52)) :: (57, .eref (.slot 7) (v35 * 3)) :: (58, .eref (.slot 7) (v35 * 3 + 0)) :: (59, .v (.int .u8 v36.Byte)) :: (60, .same (.slot 5)) :: (61, .v (.int .i64 s52)) :: (62, .eref (.slot 5) (v37 * 1)) :: (63, .v (.int .u8 v38)) :: (64, .v (.bool (v36.Byte != v38))) :: (65, .v (.bool (v36.Byte != v38))) :: [])) (init := [0, 1, 2, 3, 4]) (fin := [0, 1, 2, 3, 22]) (sps := (zq [2] 5 48 :: zq [3] 6 49 :: zq [5,2,6] 7 50 :: zq [7,2] 8 51 :: zq [8,2] 9 52 :: zq [9] 10 53 :: zq [10] 11 54 :: zq [11,2] 12 55 :: zq [11,3] 13 56 :: zq [11,12,2,13] 14 57 :: zq [11,14,2] 15 58 :: zq [11,15,2] 16 59 :: zq [11,1] 17 60 :: zq [11,3] 18 61 :: zq [11,17,1,18] 19 62 :: zq [11,19,1] 20 63 :: zq [11,16,20] 21 64 :: zq [11,21] 22 65 :: [])) (es' := [(_,_),(_,_),(_,_),(_,_),(65, .v (.bool (v36.Byte != v38)))]) (by kernel_rfl) rfl rfl ⟨z1 rfl,z1 rfl,zp rfl (op_ix _ _ _ _ _ _ _ _ underlying23 sz40 (by decide) rfl rfl rfl (ix_ok hv33).1 (flat_lt T_Tok.len (ix_ok hv33).2) rfl),zp rfl (op_fieldAddr_e _ _ _ _ _ _ _ underlying40 rfl sz3 rfl rfl rfl),zp rfl (op_load_e _ _ _ _ _ _ underlying3 rfl rfl rfl (flat_cell T_Tok.len hv34 rfl)),z4 rfl rfl,z8 hg13_6 rfl,zr' rfl (oM rfl),zr' rfl (oM rfl),zr' rfl (op_ix _ _ _ _ _ _ _ _ underlying23 sz40 (by decide) rfl rfl rfl (ix_ok hv35).1 (flat_lt T_Tok.len (ix_ok hv35).2) rfl),zr' rfl (op_fieldAddr_e _ _ _ _ _ _ _ underlying40 rfl sz5 rfl rfl rfl),zr' rfl (op_load_e _ _ _ _ _ _ underlying5 rfl rfl rfl (flat_cell T_Tok.len hv36 rfl)),zr' rfl (oM rfl),zr' rfl (oM rfl),zr' rfl (op_ix _ _ _ _ _ _ _ _ underlying22 sz5 (by decide) rfl rfl rfl (ix_ok hv37).1 (map_lt (ix_ok hv37).2) rfl),zr' rfl (op_load_e _ _ _ _ _ _ underlying5 rfl rfl rfl (map_get hv38)),zr' rfl (oB rfl rfl),z3 false rfl,zz⟩ ?_
         exact hl68 _ (Option.some.inj h).symm
      ·have h := cond_f hb65 h
       refine ht_exit ?_
       refine pt_x_then ?_
       refine pt_x_then ?_
       refine pt_x_in ?_
       refine pt_pick [] (by kernel_rfl) (es' := []) rfl ?_
       exact hl60 _ (ho62 _ (Option.some.inj h).symm).symm
   ·intro u28 h hl29 hr30
    refine cond_some h (fun hg8_2 h => ?_) (fun hg8_2 h => ?_)
    ·refine zg hn [_,_,_,_,(35,vi v26.2),(36,vb (v26.2 != 0)),(37,vb true),(38,.v undef),(39,.v undef),(40,.v undef),(41,.v undef),(42,vb true)] [0,1,2,3] [0,1,2,11] [zq [3] 4 35,zq [4] 5 36,zq [5] 6 37,zq [6] 7 38,zq [6] 8 39,zq [6] 9 40,zq [6] 10 41,zq [6] 11 42] [(_,_),(_,_),(_,_),(_,_)] rfl ⟨z1 rfl,z4 rfl rfl,z8 hg8_2 rfl,zf rfl,zf rfl,zf rfl,zf rfl,z3 true rfl,zz⟩ ?_
     exact hl29 _ (Option.some.inj h).symm
    ·refine zg hn [_,_,_,_,(35,vi v26.2),(36,vb (v26.2 != 0)),(37,vb false),(38,.same (.slot 7)),(39,vi (v26.1.length : Int)),(40,vi v6),(41,vb ((v26.1.length : Int) != v6)),(42,vb ((v26.1.length : Int) != v6))] [0,1,2,3] [0,1,2,11] [zq [3] 4 35,zq [4] 5 36,zq [5] 6 37,zq [6,2] 7 38,zq [6,7,2] 8 39,zq [6,0] 9 40,zq [6,8,9] 10 41,zq [6,10] 11 42] [(_,_),(_,_),(_,_),(_,_)] rfl ⟨z1 rfl,z4 rfl rfl,z8 hg8_2 rfl,zr' rfl (oM rfl),zr' rfl (op_len_fl _ _ _ underlying23 rfl (by decide) (flat_len T_Tok.len _)),zr' rfl (oM rfl),zr' rfl (oB rfl rfl),z3 false rfl,zz⟩ ?_
     exact hl29 _ (Option.some.inj h).symm
  ·rintro u19 hl20 hr21 ⟨s15, s16⟩ rr24 h ho22
   refine ht_seq ?_
   refine zgg hn [_,_,_,_,(18,vi s16),(19,vi v6),(20,vb (decide (s16 < v6)))] [0,1,2,3] [0,1,2,3,6] [zq [3] 4 18,zq [1] 5 19,zq [4,5] 6 20] [(_,_),(_,_),(_,_),(_,_),(_,_)] rfl ⟨z1 rfl,z1 rfl,z4 rfl rfl,zz⟩ ?_
   refine ht_cond _ rfl (fun hb25 => ?_) (fun hb25 => ?_)
   ·have h := cond_t hb25 h
    refine ht_skip ?_
    refine pt_then (ht_seq ?_)
    refine ht_block ?_
    obtain ⟨v8, hv8, h⟩ := bind_some h
    obtain ⟨v9, hv9, h⟩ := bind_some h
    obtain ⟨v10, hv10, h⟩ := bind_some h
    refine zg hn [_,_,_,_,_,(23,.fl (.own 5) 1 (List.map (Value.int .u8) s15)),(24,vi v3),(25,vi s16),(26,vi v8),(27,.v (.int .u8 v9)),(28,.fl (.own 5) 1 (List.map (Value.int .u8) [v9])),(29,.fl (.own 5) 1 (List.map (Value.int .u8) v10)),(23,.any),(5,.fl (.own 5) 1 (List.map (Value.int .u8) v10))] [0,1,2,3,4] [0,1,3,13] [⟨[],[2],[5],[(.slot 23)]⟩,zq [0] 6 24,zq [3] 7 25,zq [6,7] 8 26,zq [8] 9 27,zq [9] 10 28,⟨[10],[5],[12,11],[(.slot 29)]⟩,⟨[],[11],[13],[(.slot 5)]⟩] [(_,_),(_,_),(_,_),(_,_)] rfl ⟨zp rfl (op_move_take _ _ _ _ rfl),z1 rfl,z1 rfl,zp rfl (oB rfl (ibind (f := Value.int .i64) (Option.some.inj hv8))),zp rfl ((Option.some.inj hv9) ▸ op_conv _ _ _ underlying3 underlying5 rfl),zp rfl (op_buildSlice _ _ 1 (.int .u8 0) (List.map (Value.int .u8) [v9]) [(0, .int .u8 v9)] underlying22 sz5 zr5 (fun _ V w o a hv hes => by have e0 := rd_v hv hes (x := .tmp 27) rfl; simp only [List.map_toArray, List.map_cons, List.map_nil, e0]; try rfl) (litfill (by simp [Instr.fill, Value.cells]; rfl) (by simp [List.range, List.range.loop] <;> rfl)) (by simp [Value.oneCell']) rfl (by decide) (by decide) (by decide)),zp rfl (op_app _ _ _ _ _ el22 rfl rfl (map_len _) (map_len _) hv10 ((List.map_append).symm.trans (congrArg (List.map _) (app_eq hv10)))),zp rfl (op_assign_take _ _ _ _ rfl),zz⟩ ?_
    refine pt_inb ?_
    refine pt_then ?_
    obtain ⟨v11, hv11, h⟩ := bind_some h
    refine zg hn [_,_,_,_,(21,vi s16),(22,vi v11),(6,vi v11)] [0,1,2,3] [0,1,3,6] [zq [2] 4 21,zq [4] 5 22,⟨[5],[2],[6],[(.slot 6)]⟩] [(_,_),(_,_),(_,_),(_,_)] rfl ⟨z1 rfl,zp rfl (oB rfl (ibind (f := Value.int .i64) (Option.some.inj hv11))),zp rfl (LOp.drop [_] (op_assign _ _ _ _ rfl rfl)),zz⟩ ?_
    exact pt_next _ (Option.some.inj h).symm rfl
   ·have h := cond_f hb25 h
    refine ht_exit ?_
    refine pt_x_then ?_
    refine pt_x_then ?_
    refine pt_x_in ?_
    refine pt_pick [1, 2] (by kernel_rfl) (es' := [(_,_),(_,_)]) rfl ?_
    exact hl20 _ (ho22 _ (Option.some.inj h).symm).symm

end Go.Proofs.Ytepkcpjfogjfhaa
