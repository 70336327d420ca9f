/-
  The model's runs are what is told in Lean.
-/
import Derived.Test.YtepkcpjfogjfhaaProg
import Derived.KernelRfl
import Derived.Test.YtepkcpjfogjfhaaB2
import Derived.Test.YtepkcpjfogjfhaaOkc1
set_option linter.unusedVariables false
set_option linter.unusedSimpArgs false
set_option maxHeartbeats 1000000
namespace Go.Proofs.Ytepkcpjfogjfhaa
open Go.Abs Go.Abs.Sh Try

theorem ok_wherrylaw04_MatchOne (c : Int) (n : Int) (r : Bool) (h : Sh.wherrylaw04_MatchOne c n = some r) : FnOK Try.prog 8 [.v (.int .u8 c), .v (.int .i64 n)] (.v (.bool r)) := by
  unfold Sh.wherrylaw04_MatchOne at h
  refine fn_ok func8 rfl (zl rfl) rfl rfl fun g0 hn hio => ?_
  refine zgg hn [_,_,(4,vb false)] [0,1] [0,1] [zq [] 2 4] [(_,_),(_,_)] rfl ⟨z2 rfl,zz⟩ ?_
  refine ht_seq ?_
  obtain ⟨v1, hv1, h⟩ := bind_some h
  obtain ⟨v2, hv2, h⟩ := bind_some h
  obtain ⟨v3, hv3, h⟩ := bind_some h
  refine zg hn [_,_,(12,vi n),(13,.v (.int .u64 v1)),(14,.v (.int .u64 v2)),(15,vi v3),(1,vi v3)] [0,1] [0,6] [zq [1] 2 12,zq [2] 3 13,zq [3] 4 14,zq [4] 5 15,⟨[5],[1],[6],[(.slot 1)]⟩] [(_,_),(_,_)] rfl ⟨z1 rfl,zp rfl ((Option.some.inj hv1) ▸ op_conv _ _ _ underlying3 underlying42 rfl),zp rfl (oB rfl (rem_ok hv2)),zp rfl ((Option.some.inj hv3) ▸ op_conv _ _ _ underlying42 underlying3 rfl),zp rfl (LOp.drop [_] (op_assign _ _ _ _ rfl rfl)),zz⟩ ?_
  refine pt_then ?_
  refine zgg hn [_,_,(5,.v (.slice none 0 0))] [0,1] [0,1,2] [zq [] 2 5] [(_,_),(_,_),(_,_)] rfl ⟨z2 rfl,zz⟩ ?_
  refine ht_seq ?_
  refine zgg hn [_,_,_,(6,vi 0)] [0,1,2] [0,1,2,3] [zq [] 3 6] [(_,_),(_,_),(_,_),(_,_)] rfl ⟨z2 rfl,zz⟩ ?_
  refine ht_sub (fs := [(0, .v (.int .u8 c)), (1, .v (.int .i64 v3)), (5, .fl (.own 5) 1 (List.map (Value.int .u8) [])), (6, .v (.int .i64 0))]) (.same _ (.same _ (.sub _ (sub_nil 5 1) rfl (.same _ .nil)))) ?_
  refine ht_loopS h (fun ((s10, s11) : (List Int) × Int) => [(0, .v (.int .u8 c)), (1, .v (.int .i64 v3)), (5, .fl (.own 5) 1 (List.map (Value.int .u8) s10)), (6, .v (.int .i64 s11))]) (fun (s13 : (List Int)) => [(0, .v (.int .u8 c)), (1, .v (.int .i64 v3)), (5, .fl (.own 5) 1 (List.map (Value.int .u8) s13))]) ?_ ?_
  ·rintro s13 h
   refine pt_then ?_
   refine zgg hn [_,_,_,(7,.v (.slice none 0 0))] [0,1,2] [0,1,2,3] [zq [] 3 7] [(_,_),(_,_),(_,_),(_,_)] rfl ⟨z2 rfl,zz⟩ ?_
   refine zgg hn [_,_,_,_,(25,vi v3),(8,vi v3)] [0,1,2,3] [0,2,3,5] [zq [1] 4 25,zq [4] 5 8] [(_,_),(_,_),(_,_),(_,_)] rfl ⟨z1 rfl,z2 rfl,zz⟩ ?_
   refine ht_seq ?_
   refine ht_joinS h (fun ((s24, s25) : (List T_Tok) × Int) => [(0, .v (.int .u8 c)), (5, .fl (.own 5) 1 (List.map (Value.int .u8) s13)), (7, .fl (.own 40) 3 (List.flatten (List.map T_Tok.enc s24))), (8, .v (.int .i64 s25))]) ?_ ?_
   ·rintro ⟨s24, s25⟩ h
    refine pt_then (ht_seq ?_)
    refine ht_loopS h (fun ((s37, s38) : (List T_Tok) × Int) => [(0, .v (.int .u8 c)), (5, .fl (.own 5) 1 (List.map (Value.int .u8) s13)), (7, .fl (.own 40) 3 (List.flatten (List.map T_Tok.enc s37))), (8, .v (.int .i64 s38))]) (fun ((s40, s41) : (List T_Tok) × Int) => [(0, .v (.int .u8 c)), (5, .fl (.own 5) 1 (List.map (Value.int .u8) s13)), (7, .fl (.own 40) 3 (List.flatten (List.map T_Tok.enc s40))), (8, .v (.int .i64 s41))]) ?_ ?_
    ·rintro ⟨s40, s41⟩ h
     refine pt_then (ht_seq ?_)
     refine ht_loopS h (fun ((s55, s56) : (List T_Tok) × Int) => [(0, .v (.int .u8 c)), (5, .fl (.own 5) 1 (List.map (Value.int .u8) s13)), (7, .fl (.own 40) 3 (List.flatten (List.map T_Tok.enc s55))), (8, .v (.int .i64 s56))]) (fun (s58 : (List T_Tok)) => [(5, .fl (.own 5) 1 (List.map (Value.int .u8) s13)), (7, .fl (.own 40) 3 (List.flatten (List.map T_Tok.enc s58)))]) ?_ ?_
     ·rintro s58 h
      refine pt_then (ht_seq ?_)
      obtain ⟨v66, hv66, h⟩ := bind_some h
      refine zg hn [_,_,(57,.fl (.own 5) 1 (List.map (Value.int .u8) s13)),(58,.tup [.fl (.own 40) 3 (List.flatten (List.map T_Tok.enc v66.1)),vi v66.2]),(56,.tup [.fl (.own 40) 3 (List.flatten (List.map T_Tok.enc v66.1)),vi v66.2]),(59,.fl (.own 40) 3 (List.flatten (List.map T_Tok.enc v66.1))),(56,.tup [.any,vi v66.2]),(60,vi v66.2),(10,.fl (.own 40) 3 (List.flatten (List.map T_Tok.enc v66.1))),(11,vi v66.2)] [0,1] [1,8,9] [⟨[],[0],[2],[(.slot 57)]⟩,zq [2] 3 58,⟨[],[3],[4],[(.slot 56)]⟩,⟨[],[4],[6,5],[(.slot 59)]⟩,zq [6] 7 60,⟨[],[5],[8],[(.slot 10)]⟩,zq [7] 9 11] [(_,_),(_,_),(_,_)] rfl ⟨zp rfl (op_move_take _ _ _ _ rfl),zp rfl (op_call _ _ 14 _ _ rfl call14 rfl (ok_match_Tokens s13 _ hv66) rfl rfl),zp rfl (op_move_take _ _ _ _ rfl),zp rfl (op_extract_take _ _ _ _ _ rfl (zl rfl) rfl rfl (by decide) rfl),zp rfl (oE rfl),zp rfl (op_assign_take _ _ _ _ rfl),z2 rfl,zz⟩ ?_
      refine pt_then (ht_seq ?_)
      refine ht_joinS h (fun (s69 : Bool) => [(4, .v (.bool s69))]) ?_ ?_
      ·rintro s69 h
       refine pt_then (ht_ret ?_)
       obtain rfl := Option.some.inj h
       exact pt_ret hio rfl (.tmp _ _ .nil) rfl rfl
      ·intro u70 h hl71 hr72
       refine cond_some h (fun hg18_2 h => ?_) (fun hg18_2 h => ?_)
       ·obtain ⟨v67, hv67, h⟩ := bind_some h
        refine cond_some h (fun hg18_7 h => ?_) (fun hg18_7 h => ?_)
        ·obtain ⟨v68, hv68, h⟩ := bind_some h
         refine zg hn [_,_,_,(61,vi v66.2),(62,vb (v66.2 == 0)),(63,vb true),(64,.fl (.own 40) 3 (List.flatten (List.map T_Tok.enc v66.1))),(65,.fl (.own 40) 3 (List.flatten (List.map T_Tok.enc s58))),(66,vb v67),(67,vb v67),(68,vb true),(69,vb v68),(70,vb v68),(4,vb v68)] [0,1,2] [13] [zq [2] 3 61,zq [3] 4 62,zq [4] 5 63,⟨[5],[1],[6],[(.slot 64)]⟩,⟨[5],[0],[7],[(.slot 65)]⟩,zq [5,6,7] 8 66,zq [5,8] 9 67,zq [9] 10 68,zq [10] 11 69,zq [10,11] 12 70,zq [12] 13 4] [(_,_)] rfl ⟨z1 rfl,z4 rfl rfl,z8 hg18_2 rfl,zr' rfl (op_move_take _ _ _ _ rfl),zr' rfl (op_move_take _ _ _ _ rfl),zr' rfl (op_call _ _ 20 _ _ rfl call20 rfl (ok_wherrykeep_Toks v66.1 s58 _ hv67) rfl rfl),z3 true rfl,z8 hg18_7 rfl,zr' rfl (op_call _ _ 25 _ _ rfl call25 rfl (ok_wherrylaw04_wakes  _ hv68) rfl rfl),z3 true rfl,z2 rfl,zz⟩ ?_
         exact hl71 _ (Option.some.inj h).symm
        ·refine zg hn [_,_,_,(61,vi v66.2),(62,vb (v66.2 == 0)),(63,vb true),(64,.fl (.own 40) 3 (List.flatten (List.map T_Tok.enc v66.1))),(65,.fl (.own 40) 3 (List.flatten (List.map T_Tok.enc s58))),(66,vb v67),(67,vb v67),(68,vb false),(69,.v undef),(70,vb false),(4,vb false)] [0,1,2] [13] [zq [2] 3 61,zq [3] 4 62,zq [4] 5 63,⟨[5],[1],[6],[(.slot 64)]⟩,⟨[5],[0],[7],[(.slot 65)]⟩,zq [5,6,7] 8 66,zq [5,8] 9 67,zq [9] 10 68,zq [10] 11 69,zq [10] 12 70,zq [12] 13 4] [(_,_)] rfl ⟨z1 rfl,z4 rfl rfl,z8 hg18_2 rfl,zr' rfl (op_move_take _ _ _ _ rfl),zr' rfl (op_move_take _ _ _ _ rfl),zr' rfl (op_call _ _ 20 _ _ rfl call20 rfl (ok_wherrykeep_Toks v66.1 s58 _ hv67) rfl rfl),z3 true rfl,z8 hg18_7 rfl,zt rfl,z3 false rfl,z2 rfl,zz⟩ ?_
         exact hl71 _ (Option.some.inj h).symm
       ·refine zg hn [_,_,_,(61,vi v66.2),(62,vb (v66.2 == 0)),(63,vb false),(64,.v undef),(65,.v undef),(66,.v undef),(67,vb false),(68,vb false),(69,.v undef),(70,vb false),(4,vb false)] [0,1,2] [13] [zq [2] 3 61,zq [3] 4 62,zq [4] 5 63,zq [5] 6 64,zq [5] 7 65,zq [5] 8 66,zq [5] 9 67,zq [9] 10 68,zq [10] 11 69,zq [10] 12 70,zq [12] 13 4] [(_,_)] rfl ⟨z1 rfl,z4 rfl rfl,z8 hg18_2 rfl,zt rfl,zt rfl,zt rfl,z3 false rfl,z1 rfl,zt rfl,z3 false rfl,z2 rfl,zz⟩ ?_
        exact hl71 _ (Option.some.inj h).symm
     ·rintro u59 hl60 hr61 ⟨s55, s56⟩ rr64 h ho62
      refine ht_seq ?_
      refine zgg hn [_,_,_,_,(47,vi s56),(48,vb (decide (0 < s56)))] [0,1,2,3] [0,1,2,3,5] [zq [3] 4 47,zq [4] 5 48] [(_,_),(_,_),(_,_),(_,_),(_,_)] rfl ⟨z1 rfl,z4 rfl rfl,zz⟩ ?_
      refine ht_cond _ rfl (fun hb65 => ?_) (fun hb65 => ?_)
      ·have h := cond_t hb65 h
       refine ht_skip ?_
       refine pt_then (ht_seq ?_)
       refine ht_block ?_
       obtain ⟨v50, hv50, h⟩ := bind_some h
       refine zg hn [_,_,_,_,_,(51,.fl (.own 40) 3 (List.flatten (List.map T_Tok.enc s55))),(52,.v (.int .u8 c)),(53,.agg [.v (.int .u8 c),vi 0,vi 0]),(54,.fl (.own 40) 3 (List.flatten (List.map T_Tok.enc [(T_Tok.mk c 0 0)]))),(55,.fl (.own 40) 3 (List.flatten (List.map T_Tok.enc v50))),(51,.any),(7,.fl (.own 40) 3 (List.flatten (List.map T_Tok.enc v50)))] [0,1,2,3,4] [0,1,3,11] [⟨[],[2],[5],[(.slot 51)]⟩,zq [0] 6 52,zq [6] 7 53,zq [7] 8 54,⟨[8],[5],[10,9],[(.slot 55)]⟩,⟨[],[9],[11],[(.slot 7)]⟩] [(_,_),(_,_),(_,_),(_,_)] rfl ⟨zp rfl (op_move_take _ _ _ _ rfl),z1 rfl,zp rfl (op_build _ _ _ _ [1, 1, 1] _ _ underlying40 zr40 (fs40 _ underlying40) (.copy _ Src.nil) rfl rfl rfl),zp rfl (op_buildSlice _ _ 3 (.agg #[.int .u8 0, .int .i64 0, .int .i64 0]) (List.flatten (List.map T_Tok.enc [(T_Tok.mk c 0 0)])) [(0, .agg #[.int .u8 c, .int .i64 0, .int .i64 0])] underlying23 sz40 zr40 (fun _ V w o a hv hes => by have e0 := agg_v (ys := [.int .u8 c, .int .i64 0, .int .i64 0]) hv hes (x := .tmp 53) rfl; simp only [List.map_toArray, List.map_cons, List.map_nil, e0]; try rfl) (litfill (by simp [Instr.fill, Value.cells]; rfl) (by simp [List.range, List.range.loop, T_Tok.enc] <;> rfl)) (by simp [Value.oneCell', T_Tok.enc]) rfl (by decide) (by decide) (by decide)),zp rfl (op_app _ _ _ _ _ el23 rfl rfl (flat_len T_Tok.len _) (flat_len T_Tok.len _) hv50 (flat_app (app_eq hv50))),zp rfl (op_assign_take _ _ _ _ rfl),zz⟩ ?_
       refine pt_inb ?_
       refine pt_then ?_
       obtain ⟨v51, hv51, h⟩ := bind_some h
       refine zg hn [_,_,_,_,(49,vi s56),(50,vi v51),(8,vi v51)] [0,1,2,3] [0,1,3,6] [zq [2] 4 49,zq [4] 5 50,⟨[5],[2],[6],[(.slot 8)]⟩] [(_,_),(_,_),(_,_),(_,_)] rfl ⟨z1 rfl,zp rfl (oB rfl (ibind (f := Value.int .i64) (Option.some.inj hv51))),zp rfl (LOp.drop [_] (op_assign _ _ _ _ rfl rfl)),zz⟩ ?_
       exact pt_next _ (Option.some.inj h).symm rfl
      ·have h := cond_f hb65 h
       refine ht_exit ?_
       refine pt_x_then ?_
       refine pt_x_then ?_
       refine pt_x_in ?_
       refine pt_pick [1, 2] (by kernel_rfl) (es' := [(_,_),(_,_)]) rfl ?_
       exact hl60 _ (ho62 _ (Option.some.inj h).symm).symm
    ·rintro u42 hl43 hr44 ⟨s37, s38⟩ rr47 h ho45
     refine ht_seq ?_
     refine zgg hn [_,_,_,_,(35,vi s38),(36,vb (decide (3 ≤ s38)))] [0,1,2,3] [0,1,2,3,5] [zq [3] 4 35,zq [4] 5 36] [(_,_),(_,_),(_,_),(_,_),(_,_)] rfl ⟨z1 rfl,z4 rfl rfl,zz⟩ ?_
     refine ht_cond _ rfl (fun hb48 => ?_) (fun hb48 => ?_)
     ·have h := cond_t hb48 h
      refine ht_skip ?_
      refine pt_then ?_
      refine ht_block ?_
      refine ht_seq ?_
      obtain ⟨v31, hv31, h⟩ := bind_some h
      refine zg hn [_,_,_,_,_,(37,vi s38),(38,vi v31),(9,vi v31)] [0,1,2,3,4] [0,1,2,3,7] [zq [3] 5 37,zq [5] 6 38,zq [6] 7 9] [(_,_),(_,_),(_,_),(_,_),(_,_)] rfl ⟨z1 rfl,zp rfl ((Option.some.inj hv31) ▸ op_min _ _ _ _ rfl rfl),z2 rfl,zz⟩ ?_
      refine pt_then ?_
      obtain ⟨v32, hv32, h⟩ := bind_some h
      obtain ⟨v33, hv33, h⟩ := bind_some h
      refine zg hn (_::_::_::_::_::(39,.fl (.own 40) 3 (List.flatten (List.map T_Tok.enc s37)))::(40,vi v31)::(41,.agg [.v (.int .u8 0),vi v31,vi 1])::(42,.fl (.own 40) 3 (List.flatten (List.map T_Tok.enc [(T_Tok.mk 0 v31 1)])))::(43,.fl (.own 40) 3 (List.flatten (List.map T_Tok.enc v32)))::(39,.any)::(44,vi s38)::(45,vi v31)::(46,vi v33)::(7,.fl (.own 40) 3 (List.flatten (List.map T_Tok.enc v32)))::(8,vi v33)::[]) [0,1,2,3,4] [0,1,14,15] [⟨[],[2],[5],[(.slot 39)]⟩,zq [4] 6 40,zq [6] 7 41,zq [7] 8 42,⟨[8],[5],[10,9],[(.slot 43)]⟩,zq [3] 11 44,zq [4] 12 45,zq [11,12] 13 46,⟨[],[9],[14],[(.slot 7)]⟩,⟨[13],[3],[15],[(.slot 8)]⟩] [(_,_),(_,_),(_,_),(_,_)] rfl ⟨zp rfl (op_move_take _ _ _ _ rfl),z1 rfl,zp rfl (op_build _ _ _ _ [1, 1, 1] _ _ underlying40 zr40 (fs40 _ underlying40) (.copy _ (.copy _ Src.nil)) rfl rfl rfl),zp rfl (op_buildSlice _ _ 3 (.agg #[.int .u8 0, .int .i64 0, .int .i64 0]) (List.flatten (List.map T_Tok.enc [(T_Tok.mk 0 v31 1)])) [(0, .agg #[.int .u8 0, .int .i64 v31, .int .i64 1])] underlying23 sz40 zr40 (fun _ V w o a hv hes => by have e0 := agg_v (ys := [.int .u8 0, .int .i64 v31, .int .i64 1]) hv hes (x := .tmp 41) rfl; simp only [List.map_toArray, List.map_cons, List.map_nil, e0]; try rfl) (litfill (by simp [Instr.fill, Value.cells]; rfl) (by simp [List.range, List.range.loop, T_Tok.enc] <;> rfl)) (by simp [Value.oneCell', T_Tok.enc]) rfl (by decide) (by decide) (by decide)),zp rfl (op_app _ _ _ _ _ el23 rfl rfl (flat_len T_Tok.len _) (flat_len T_Tok.len _) hv32 (flat_app (app_eq hv32))),z1 rfl,z1 rfl,zp rfl (oB rfl (ibind (f := Value.int .i64) (Option.some.inj hv33))),zp rfl (op_assign_take _ _ _ _ rfl),zp rfl (LOp.drop [_] (op_assign _ _ _ _ rfl rfl)),zz⟩ ?_
      refine pt_inb ?_
      exact pt_next _ (Option.some.inj h).symm rfl
     ·have h := cond_f hb48 h
      refine ht_exit ?_
      refine pt_x_then ?_
      refine pt_x_then ?_
      refine pt_x_in ?_
      refine pt_pick [0, 1, 2, 3] (by kernel_rfl) (es' := [(_,_),(_,_),(_,_),(_,_)]) rfl ?_
      exact hl43 _ (ho45 _ (Option.some.inj h).symm).symm
   ·intro u26 h hl27 hr28
    refine zgg hn [_,_,_,_,(26,vi v3),(27,vb (decide (0 < v3)))] [0,1,2,3] [0,1,2,3,5] [zq [3] 4 26,zq [4] 5 27] [(_,_),(_,_),(_,_),(_,_),(_,_)] rfl ⟨z1 rfl,z4 rfl rfl,zz⟩ ?_
    refine ht_cond _ rfl (fun hb29 => ?_) (fun hb29 => ?_)
    ·have h := cond_t hb29 h
     obtain ⟨v22, hv22, h⟩ := bind_some h
     obtain ⟨v23, hv23, h⟩ := bind_some h
     refine zg hn [_,_,_,_,_,(28,.v (.slice none 0 0)),(29,.v (.int .u8 c)),(30,.agg [.v (.int .u8 c),vi 0,vi 0]),(31,.fl (.own 40) 3 (List.flatten (List.map T_Tok.enc [(T_Tok.mk c 0 0)]))),(32,.fl (.own 40) 3 (List.flatten (List.map T_Tok.enc v22))),(33,vi v3),(34,vi v23),(7,.fl (.own 40) 3 (List.flatten (List.map T_Tok.enc v22))),(8,vi v23)] [0,1,2,3,4] [0,1,12,13] [zq [2] 5 28,zq [0] 6 29,zq [6] 7 30,zq [7] 8 31,zq [5,8] 9 32,zq [3] 10 33,zq [10] 11 34,⟨[],[2,9],[12],[(.slot 7)]⟩,⟨[11],[3],[13],[(.slot 8)]⟩] [(_,_),(_,_),(_,_),(_,_)] rfl ⟨z1 rfl,z1 rfl,zp rfl (op_build _ _ _ _ [1, 1, 1] _ _ underlying40 zr40 (fs40 _ underlying40) (.copy _ Src.nil) rfl rfl rfl),zp rfl (op_buildSlice _ _ 3 (.agg #[.int .u8 0, .int .i64 0, .int .i64 0]) (List.flatten (List.map T_Tok.enc [(T_Tok.mk c 0 0)])) [(0, .agg #[.int .u8 c, .int .i64 0, .int .i64 0])] underlying23 sz40 zr40 (fun _ V w o a hv hes => by have e0 := agg_v (ys := [.int .u8 c, .int .i64 0, .int .i64 0]) hv hes (x := .tmp 30) rfl; simp only [List.map_toArray, List.map_cons, List.map_nil, e0]; try rfl) (litfill (by simp [Instr.fill, Value.cells]; rfl) (by simp [List.range, List.range.loop, T_Tok.enc] <;> rfl)) (by simp [Value.oneCell', T_Tok.enc]) rfl (by decide) (by decide) (by decide)),zp rfl (op_app_nil _ _ _ _ el23 rfl rfl (flat_len T_Tok.len _) hv22 (congrArg (fun l => List.flatten (List.map _ l)) (app_nil_eq hv22))),z1 rfl,zp rfl (oB rfl (ibind (f := Value.int .i64) (Option.some.inj hv23))),zp rfl (LOp.drop [_] (op_assign_take _ _ _ _ rfl)),zp rfl (LOp.drop [_] (op_assign _ _ _ _ rfl rfl)),zz⟩ ?_
     exact hl27 _ (Option.some.inj h).symm
    ·have h := cond_f hb29 h
     refine ht_skip ?_
     refine pt_pick [0, 1, 2, 3] (by kernel_rfl) (es' := [(_,_),(_,_),(_,_),(_,_)]) rfl ?_
     refine pt_sub (fs := [(0, .v (.int .u8 c)), (5, .fl (.own 5) 1 (List.map (Value.int .u8) s13)), (7, .fl (.own 40) 3 (List.flatten (List.map T_Tok.enc []))), (8, .v (.int .i64 v3))]) (.same _ (.same _ (.sub _ (sub_nil 40 3) rfl (.same _ .nil)))) ?_
     exact hl27 _ (Option.some.inj h).symm
  ·rintro u14 hl15 hr16 ⟨s10, s11⟩ rr19 h ho17
   refine ht_seq ?_
   refine zgg hn [_,_,_,_,(16,vi s11),(17,vi v3),(18,vb (decide (s11 < v3)))] [0,1,2,3] [0,1,2,3,6] [zq [3] 4 16,zq [1] 5 17,zq [4,5] 6 18] [(_,_),(_,_),(_,_),(_,_),(_,_)] rfl ⟨z1 rfl,z1 rfl,z4 rfl rfl,zz⟩ ?_
   refine ht_cond _ rfl (fun hb20 => ?_) (fun hb20 => ?_)
   ·have h := cond_t hb20 h
    refine ht_skip ?_
    refine pt_then (ht_seq ?_)
    refine ht_block ?_
    obtain ⟨v5, hv5, h⟩ := bind_some h
    refine zg hn [_,_,_,_,_,(21,.fl (.own 5) 1 (List.map (Value.int .u8) s10)),(22,.v (.int .u8 c)),(23,.fl (.own 5) 1 (List.map (Value.int .u8) [c])),(24,.fl (.own 5) 1 (List.map (Value.int .u8) v5)),(21,.any),(5,.fl (.own 5) 1 (List.map (Value.int .u8) v5))] [0,1,2,3,4] [0,1,3,10] [⟨[],[2],[5],[(.slot 21)]⟩,zq [0] 6 22,zq [6] 7 23,⟨[7],[5],[9,8],[(.slot 24)]⟩,⟨[],[8],[10],[(.slot 5)]⟩] [(_,_),(_,_),(_,_),(_,_)] rfl ⟨zp rfl (op_move_take _ _ _ _ rfl),z1 rfl,zp rfl (op_buildSlice _ _ 1 (.int .u8 0) (List.map (Value.int .u8) [c]) [(0, .int .u8 c)] underlying22 sz5 zr5 (fun _ V w o a hv hes => by have e0 := rd_v hv hes (x := .tmp 22) rfl; simp only [List.map_toArray, List.map_cons, List.map_nil, e0]; try rfl) (litfill (by simp [Instr.fill, Value.cells]; rfl) (by simp [List.range, List.range.loop] <;> rfl)) (by simp [Value.oneCell']) rfl (by decide) (by decide) (by decide)),zp rfl (op_app _ _ _ _ _ el22 rfl rfl (map_len _) (map_len _) hv5 ((List.map_append).symm.trans (congrArg (List.map _) (app_eq hv5)))),zp rfl (op_assign_take _ _ _ _ rfl),zz⟩ ?_
    refine pt_inb ?_
    refine pt_then ?_
    obtain ⟨v6, hv6, h⟩ := bind_some h
    refine zg hn [_,_,_,_,(19,vi s11),(20,vi v6),(6,vi v6)] [0,1,2,3] [0,1,3,6] [zq [2] 4 19,zq [4] 5 20,⟨[5],[2],[6],[(.slot 6)]⟩] [(_,_),(_,_),(_,_),(_,_)] rfl ⟨z1 rfl,zp rfl (oB rfl (ibind (f := Value.int .i64) (Option.some.inj hv6))),zp rfl (LOp.drop [_] (op_assign _ _ _ _ rfl rfl)),zz⟩ ?_
    exact pt_next _ (Option.some.inj h).symm rfl
   ·have h := cond_f hb20 h
    refine ht_exit ?_
    refine pt_x_then ?_
    refine pt_x_then ?_
    refine pt_x_in ?_
    refine pt_pick [0, 1, 2] (by kernel_rfl) (es' := [(_,_),(_,_),(_,_)]) rfl ?_
    exact hl15 _ (ho17 _ (Option.some.inj h).symm).symm

end Go.Proofs.Ytepkcpjfogjfhaa
