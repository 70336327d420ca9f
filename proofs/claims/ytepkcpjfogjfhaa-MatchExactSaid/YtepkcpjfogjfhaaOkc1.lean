/-
  The model's runs are what is told in Lean.
-/
import Derived.Test.YtepkcpjfogjfhaaProg
import Derived.KernelRfl
import Derived.Test.YtepkcpjfogjfhaaB2
import Derived.Test.YtepkcpjfogjfhaaSh
set_option linter.unusedVariables false
set_option linter.unusedSimpArgs false
set_option maxHeartbeats 1000000
namespace Go.Proofs.Ytepkcpjfogjfhaa
open Go.Abs Go.Abs.Sh Try
theorem sz5 : (Try.prog.info? 5).map (·.size) = some 1 := by kernel_rfl
theorem fs40 : ∀ fs, Try.prog.underlying 40 = some (.struct fs) → fs.toList.map (fun f => (Try.prog.info? f.type).map (·.size)) = ([1, 1, 1] : List Nat).map some := by
  intro fs h
  rw [Try.underlying40] at h
  cases h
  kernel_rfl
theorem zr40 : (Try.prog.info? 40).bind (·.zero) = some (.agg #[.int .u8 0, .int .i64 0, .int .i64 0]) := by kernel_rfl
theorem sz40 : (Try.prog.info? 40).map (·.size) = some 3 := by kernel_rfl
theorem el23 : ElemT Try.prog 23 40 3 24 := ⟨⟨Try.t40, .agg #[.int .u8 0, .int .i64 0, .int .i64 0], Try.underlying23, by kernel_rfl, by kernel_rfl, by kernel_rfl, by kernel_rfl, by decide, by kernel_rfl⟩⟩
theorem sz3 : (Try.prog.info? 3).map (·.size) = some 1 := by kernel_rfl
theorem zr5 : (Try.prog.info? 5).bind (·.zero) = some (.int .u8 0) := by kernel_rfl
theorem el22 : ElemT Try.prog 22 5 1 1 := ⟨⟨Try.t5, .int .u8 0, Try.underlying22, by kernel_rfl, by kernel_rfl, by kernel_rfl, by kernel_rfl, by decide, by kernel_rfl⟩⟩
theorem fs56 : ∀ fs, Try.prog.underlying 56 = some (.struct fs) → fs.toList.map (fun f => (Try.prog.info? f.type).map (·.size)) = ([1, 1, 1, 1] : List Nat).map some := by
  intro fs h
  rw [Try.underlying56] at h
  cases h
  kernel_rfl
theorem zr56 : (Try.prog.info? 56).bind (·.zero) = some (.agg #[.slice none 0 0, .map none, .slice none 0 0, .int .i64 0]) := by kernel_rfl
theorem za60 : ((Try.prog.info? 60).bind (·.zero)).map (·.cells.toList) = some (List.map (Value.int .u8) (List.replicate 3 (0 : Int))) := by kernel_rfl
theorem sz22 : (Try.prog.info? 22).map (·.size) = some 1 := by kernel_rfl
theorem zr60 : (Try.prog.info? 60).bind (·.zero) = some (.agg #[.int .u8 0, .int .u8 0, .int .u8 0]) := by kernel_rfl
theorem sz60 : (Try.prog.info? 60).map (·.size) = some 3 := by kernel_rfl
theorem sz53 : (Try.prog.info? 53).map (·.size) = some 1 := by kernel_rfl
theorem zr3 : (Try.prog.info? 3).bind (·.zero) = some (.int .i64 0) := by kernel_rfl
theorem mf53 : MapF Try.prog 53 60 3 3 := mapF_of Try.underlying53 Try.underlying3 zr3 Try.underlying60 Try.underlying5 (by kernel_rfl) (by kernel_rfl) (by kernel_rfl) (by kernel_rfl)
theorem sz54 : (Try.prog.info? 54).map (·.size) = some 1 := by kernel_rfl
theorem el54 : ElemT Try.prog 54 3 1 8 := ⟨⟨Try.t3, .int .i64 0, Try.underlying54, by kernel_rfl, by kernel_rfl, by kernel_rfl, by kernel_rfl, by decide, by kernel_rfl⟩⟩
theorem ok_wherryref01_in (n : Int) (lo : Int) (hi : Int) (r : Bool) (h : Sh.wherryref01_in n lo hi = some r) : FnOK Try.prog 32 [.v (.int .i64 n), .v (.int .i64 lo), .v (.int .i64 hi)] (.v (.bool r)) := by
  unfold Sh.wherryref01_in at h
  refine fn_ok func32 rfl (zl rfl) rfl rfl fun g0 hn hio => ?_
  refine zgg hn [_,_,_,(6,vb false)] [0,1,2] [0,1,2] [zq [] 3 6] [(_,_),(_,_),(_,_)] rfl ⟨z2 rfl,zz⟩ ?_
  refine ht_seq ?_
  refine ht_joinS h (fun (s1 : Bool) => [(6, .v (.bool s1))]) ?_ ?_
  ·rintro s1 h
   refine pt_then (ht_ret ?_)
   obtain rfl := Option.some.inj h
   exact pt_ret hio rfl (.tmp _ _ .nil) rfl rfl
  ·intro u2 h hl3 hr4
   refine cond_some h (fun hg1_3 h => ?_) (fun hg1_3 h => ?_)
   ·refine zg hn [_,_,_,(7,vi n),(8,vi lo),(9,vb (decide (lo ≤ n))),(10,vb true),(11,vi n),(12,vi hi),(13,vb (decide (n ≤ hi))),(14,vb (decide (n ≤ hi))),(6,vb (decide (n ≤ hi)))] [0,1,2] [11] [zq [0] 3 7,zq [1] 4 8,zq [3,4] 5 9,zq [5] 6 10,zq [6,0] 7 11,zq [6,2] 8 12,zq [6,7,8] 9 13,zq [6,9] 10 14,zq [10] 11 6] [(_,_)] rfl ⟨z1 rfl,z1 rfl,z4 rfl rfl,z8 hg1_3 rfl,zr' rfl (oM rfl),zr' rfl (oM rfl),zr' rfl (oB rfl rfl),z3 true rfl,z2 rfl,zz⟩ ?_
    exact hl3 _ (Option.some.inj h).symm
   ·refine zg hn [_,_,_,(7,vi n),(8,vi lo),(9,vb (decide (lo ≤ n))),(10,vb false),(11,.v undef),(12,.v undef),(13,.v undef),(14,vb false),(6,vb false)] [0,1,2] [11] [zq [0] 3 7,zq [1] 4 8,zq [3,4] 5 9,zq [5] 6 10,zq [6] 7 11,zq [6] 8 12,zq [6] 9 13,zq [6] 10 14,zq [10] 11 6] [(_,_)] rfl ⟨z1 rfl,z1 rfl,z4 rfl rfl,z8 hg1_3 rfl,zt rfl,zt rfl,zt rfl,z3 false rfl,z2 rfl,zz⟩ ?_
    exact hl3 _ (Option.some.inj h).symm
theorem ok_wherryref01_Best (b : (List Int)) (at_ : Int) (r : (Int × Int)) (h : Sh.wherryref01_Best b at_ = some r) : FnOK Try.prog 17 [.fl .shr 1 (List.map (Value.int .u8) b), .v (.int .i64 at_)] (.tup [.v (.int .i64 r.1), .v (.int .i64 r.2)]) := by
  unfold Sh.wherryref01_Best at h
  refine fn_ok func17 rfl (zl rfl) rfl rfl fun g0 hn hio => ?_
  refine zgg hn [_,_,(4,vi 0),(5,vi 0)] [0,1] [0,1] [zq [] 2 4,zq [] 3 5] [(_,_),(_,_)] rfl ⟨z2 rfl,z2 rfl,zz⟩ ?_
  refine ht_seq ?_
  refine ht_seq ?_
  refine ht_joinS h (fun (s3 : Bool) => [(0, .fl .shr 1 (List.map (Value.int .u8) b)), (1, .v (.int .i64 at_)), (20, .v (.bool s3))]) ?_ ?_
  ·rintro s3 h
   refine pt_then ?_
   refine ht_cond _ rfl (fun hb7 => ?_) (fun hb7 => ?_)
   ·have h := cond_t hb7 h
    refine zgg hn [_,_,_,(4,vi 0),(5,vi 0)] [0,1,2] [3,4] [zq [] 3 4,zq [] 4 5] [(_,_),(_,_)] rfl ⟨z2 rfl,z2 rfl,zz⟩ ?_
    refine ht_ret ?_
    refine pt_r_then ?_
    obtain rfl := Option.some.inj h
    exact pt_ret hio rfl (.tmp _ _ (.tmp _ _ .nil)) rfl rfl
   ·have h := cond_f hb7 h
    refine ht_skip ?_
    refine pt_then ?_
    refine zgg hn [_,_,_,(6,vi 0),(7,vi 0)] [0,1,2] [0,1,3,4] [zq [] 3 6,zq [] 4 7] [(_,_),(_,_),(_,_),(_,_)] rfl ⟨z2 rfl,z2 rfl,zz⟩ ?_
    refine ht_seq ?_
    refine zgg hn [_,_,_,_,(8,vi 1)] [0,1,2,3] [0,1,2,3,4] [zq [] 4 8] [(_,_),(_,_),(_,_),(_,_),(_,_)] rfl ⟨z2 rfl,zz⟩ ?_
    refine ht_loopS h (fun ((s161, s162, s163) : Int × Int × Int) => [(0, .fl .shr 1 (List.map (Value.int .u8) b)), (1, .v (.int .i64 at_)), (6, .v (.int .i64 s161)), (7, .v (.int .i64 s162)), (8, .v (.int .i64 s163))]) (fun ((s234, s235) : Int × Int) => [(6, .v (.int .i64 s234)), (7, .v (.int .i64 s235))]) ?_ ?_
    ·rintro ⟨s234, s235⟩ h
     refine pt_then (ht_seq ?_)
     refine zgg hn [_,_,(64,vi s234),(65,vb (decide (s234 < 3)))] [0,1] [0,1,3] [zq [0] 2 64,zq [2] 3 65] [(_,_),(_,_),(_,_)] rfl ⟨z1 rfl,z4 rfl rfl,zz⟩ ?_
     refine ht_cond _ rfl (fun hb312 => ?_) (fun hb312 => ?_)
     ·have h := cond_t hb312 h
      refine zgg hn [_,_,_,(4,vi 0),(5,vi 0)] [0,1,2] [3,4] [zq [] 3 4,zq [] 4 5] [(_,_),(_,_)] rfl ⟨z2 rfl,z2 rfl,zz⟩ ?_
      refine ht_ret ?_
      refine pt_r_then ?_
      obtain rfl := Option.some.inj h
      exact pt_ret hio rfl (.tmp _ _ (.tmp _ _ .nil)) rfl rfl
     ·have h := cond_f hb312 h
      refine ht_skip ?_
      refine pt_then ?_
      refine zgg hn [_,_,_,(66,vi s234),(67,vi s235),(4,vi s234),(5,vi s235)] [0,1,2] [5,6] [zq [0] 3 66,zq [1] 4 67,zq [3] 5 4,zq [4] 6 5] [(_,_),(_,_)] rfl ⟨z1 rfl,z1 rfl,z2 rfl,z2 rfl,zz⟩ ?_
      refine ht_ret ?_
      obtain rfl := Option.some.inj h
      exact pt_ret hio rfl (.tmp _ _ (.tmp _ _ .nil)) rfl rfl
    ·rintro u236 hl237 hr238 ⟨s161, s162, s163⟩ rr241 h ho239
     refine ht_seq ?_
     refine ht_seq ?_
     refine ht_joinS h (fun (s242 : Bool) => [(0, .fl .shr 1 (List.map (Value.int .u8) b)), (1, .v (.int .i64 at_)), (6, .v (.int .i64 s161)), (7, .v (.int .i64 s162)), (8, .v (.int .i64 s163)), (27, .v (.bool s242))]) ?_ ?_
     ·rintro s242 h
      refine pt_then ?_
      refine ht_cond _ rfl (fun hb246 => ?_) (fun hb246 => ?_)
      ·have h := cond_t hb246 h
       refine ht_skip ?_
       refine pt_then (ht_seq ?_)
       refine ht_joinS h (fun ((s277, s278) : Int × Int) => [(0, .fl .shr 1 (List.map (Value.int .u8) b)), (1, .v (.int .i64 at_)), (8, .v (.int .i64 s163)), (6, .v (.int .i64 s277)), (7, .v (.int .i64 s278))]) ?_ ?_
       ·rintro ⟨s277, s278⟩ h
        refine pt_then ?_
        obtain ⟨v87, hv87, h⟩ := bind_some h
        refine zg hn [_,_,_,_,_,(28,vi s163),(29,vi v87),(8,vi v87)] [0,1,2,3,4] [0,1,3,4,7] [zq [2] 5 28,zq [5] 6 29,⟨[6],[2],[7],[(.slot 8)]⟩] [(_,_),(_,_),(_,_),(_,_),(_,_)] rfl ⟨z1 rfl,zp rfl (oB rfl (ibind (f := Value.int .i64) (Option.some.inj hv87))),zp rfl (LOp.drop [_] (op_assign _ _ _ _ rfl rfl)),zz⟩ ?_
        exact pt_next _ (Option.some.inj h).symm rfl
       ·intro u279 h hl280 hr281
        refine ht_block ?_
        refine zgg hn [_,_,_,_,_,_,(9,vi 0)] [0,1,2,3,4,5] [0,1,2,3,4,6] [zq [] 6 9] [(_,_),(_,_),(_,_),(_,_),(_,_),(_,_)] rfl ⟨z2 rfl,zz⟩ ?_
        refine ht_seq ?_
        refine ht_loopS h (fun (s293 : Int) => [(0, .fl .shr 1 (List.map (Value.int .u8) b)), (1, .v (.int .i64 at_)), (6, .v (.int .i64 s161)), (7, .v (.int .i64 s162)), (8, .v (.int .i64 s163)), (9, .v (.int .i64 s293))]) (fun (s299 : Int) => [(0, .fl .shr 1 (List.map (Value.int .u8) b)), (1, .v (.int .i64 at_)), (6, .v (.int .i64 s161)), (7, .v (.int .i64 s162)), (8, .v (.int .i64 s163)), (9, .v (.int .i64 s299))]) ?_ ?_
        ·rintro s299 h
         refine pt_then ?_
         refine zgg hn [_,_,_,_,_,_,(59,vi s299),(60,vi s161),(61,vb (decide (s161 < s299)))] [0,1,2,3,4,5] [0,1,2,3,4,5,8] [zq [5] 6 59,zq [2] 7 60,zq [6,7] 8 61] [(_,_),(_,_),(_,_),(_,_),(_,_),(_,_),(_,_)] rfl ⟨z1 rfl,z1 rfl,z4 rfl rfl,zz⟩ ?_
         refine ht_cond _ rfl (fun hb311 => ?_) (fun hb311 => ?_)
         ·have h := cond_t hb311 h
          refine zg hn [_,_,_,_,_,_,_,(62,vi s299),(63,vi s163),(6,vi s299),(7,vi s163)] [0,1,2,3,4,5,6] [0,1,4,9,10] [zq [5] 7 62,zq [4] 8 63,⟨[7],[2],[9],[(.slot 6)]⟩,⟨[8],[3],[10],[(.slot 7)]⟩] [(_,_),(_,_),(_,_),(_,_),(_,_)] rfl ⟨z1 rfl,z1 rfl,zp rfl (LOp.drop [_] (op_assign _ _ _ _ rfl rfl)),zp rfl (LOp.drop [_] (op_assign _ _ _ _ rfl rfl)),zz⟩ ?_
          refine pt_inb ?_
          exact hl280 _ (Option.some.inj h).symm
         ·have h := cond_f hb311 h
          refine ht_skip ?_
          refine pt_inb ?_
          refine pt_pick [0, 1, 4, 2, 3] (by kernel_rfl) (es' := [(_,_),(_,_),(_,_),(_,_),(_,_)]) rfl ?_
          exact hl280 _ (Option.some.inj h).symm
        ·rintro u300 hl301 hr302 s293 rr305 h ho303
         refine ht_seq ?_
         refine ht_seq ?_
         refine ht_joinS h (fun (s306 : Bool) => [(0, .fl .shr 1 (List.map (Value.int .u8) b)), (1, .v (.int .i64 at_)), (6, .v (.int .i64 s161)), (7, .v (.int .i64 s162)), (8, .v (.int .i64 s163)), (9, .v (.int .i64 s293)), (56, .v (.bool s306))]) ?_ ?_
         ·rintro s306 h
          refine pt_then ?_
          refine ht_cond _ rfl (fun hb310 => ?_) (fun hb310 => ?_)
          ·have h := cond_t hb310 h
           refine ht_skip ?_
           refine pt_then ?_
           refine ht_block ?_
           obtain ⟨v26, hv26, h⟩ := bind_some h
           refine zg hn [_,_,_,_,_,_,_,(57,vi s293),(58,vi v26),(9,vi v26)] [0,1,2,3,4,5,6] [0,1,2,3,4,9] [zq [5] 7 57,zq [7] 8 58,⟨[8],[5],[9],[(.slot 9)]⟩] [(_,_),(_,_),(_,_),(_,_),(_,_),(_,_)] rfl ⟨z1 rfl,zp rfl (oB rfl (ibind (f := Value.int .i64) (Option.some.inj hv26))),zp rfl (LOp.drop [_] (op_assign _ _ _ _ rfl rfl)),zz⟩ ?_
           refine pt_inb ?_
           exact pt_next _ (Option.some.inj h).symm rfl
          ·have h := cond_f hb310 h
           refine ht_exit ?_
           refine pt_x_then ?_
           refine pt_x_then ?_
           refine pt_x_in ?_
           refine pt_pick [0, 1, 2, 3, 4, 5] (by kernel_rfl) (es' := [(_,_),(_,_),(_,_),(_,_),(_,_),(_,_)]) rfl ?_
           exact hl301 _ (ho303 _ (Option.some.inj h).symm).symm
         ·intro u307 h hl308 hr309
          refine cond_some h (fun hg8_2 h => ?_) (fun hg8_2 h => ?_)
          ·obtain ⟨v13, hv13, h⟩ := bind_some h
           refine cond_some h (fun hg8_10 h => ?_) (fun hg8_10 h => ?_)
           ·obtain ⟨v14, hv14, h⟩ := bind_some h
            obtain ⟨v15, hv15, h⟩ := bind_some h
            obtain ⟨v16, hv16, h⟩ := bind_some h
            obtain ⟨v17, hv17, h⟩ := bind_some h
            obtain ⟨v18, hv18, h⟩ := bind_some h
            obtain ⟨v19, hv19, h⟩ := bind_some h
            obtain ⟨v20, hv20, h⟩ := bind_some h
            refine ht_anyR (by kernel_rfl) hn (El := (_ :: _ :: _ :: _ :: _ :: _ :: (30, .v (.int .i64 s293)) :: (31, .v (.bool ((decide (s293 < 258))))) :: (32, .v (.bool true)) :: (33, .v (.int .i64 at_)) :: (34, .v (.int .i64 s293)) :: (35, .v (.int .i64 v13)) :: (36, .fl .shr 1 (List.map (Value.int .u8) b)) :: (37, .v (.int .i64 (b.length : Int))) :: (38, .v (.bool ((decide (v13 < (b.length : Int)))))) :: (39, .v (.bool ((decide (v13 < (b.length : Int)))))) :: (40, .v (.bool true)) :: (41, .fl .shr 1 (List.map (Value.int .u8) b)) :: (42, .v (.int .i64 at_)) :: (43, .v (.int .i64 s293)) :: (44, .v (.int .i64 v14)) :: (45, .eref (.slot 41) (v15 * 1)) :: (46, .v (.int .u8 v16)) :: (47, .fl .shr 1 (List.map (Value.int .u8) b)) :: (48, .v (.int .i64 at_)) :: (49, .v (.int .i64 s293)) :: (50, .v (.int .i64 v17)) :: (51, .v (.int .i64 s163)) :: (52, .v (.int .i64 v18)) :: (53, .eref (.slot 47) (v19 * 1)) :: (54, .v (.int .u8 v20)) :: (55, .v (.bool (v16 == v20))) :: (56, .v (.bool (v16 == v20))) :: [])) (init := [0, 1, 2, 3, 4, 5]) (fin := [0, 1, 2, 3, 4, 5, 32]) (sps := (zq [5] 6 30 :: zq [6] 7 31 :: zq [7] 8 32 :: zq [8,1] 9 33 :: zq [8,5] 10 34 :: zq [8,9,10] 11 35 :: zq [8,0] 12 36 :: zq [8,12] 13 37 :: zq [8,11,13] 14 38 :: zq [8,14] 15 39 :: zq [15] 16 40 :: zq [16,0] 17 41 :: zq [16,1] 18 42 :: zq [16,5] 19 43 :: zq [16,18,19] 20 44 :: zq [16,17,20] 21 45 :: zq [16,21,17] 22 46 :: zq [16,0] 23 47 :: zq [16,1] 24 48 :: zq [16,5] 25 49 :: zq [16,24,25] 26 50 :: zq [16,4] 27 51 :: zq [16,26,27] 28 52 :: zq [16,23,28] 29 53 :: zq [16,29,23] 30 54 :: zq [16,22,30] 31 55 :: zq [16,31] 32 56 :: [])) (es' := [(_,_),(_,_),(_,_),(_,_),(_,_),(_,_),(56, .v (.bool (v16 == v20)))]) (by kernel_rfl) rfl rfl ⟨z1 rfl,z4 rfl rfl,z8 hg8_2 rfl,zr' rfl (oM rfl),zr' rfl (oM rfl),zr' rfl (oB rfl (ibind (f := Value.int .i64) (Option.some.inj hv13))),zr' rfl (oM rfl),zr' rfl (op_len_fl _ _ _ underlying22 rfl (by decide) (map_len _)),zr' rfl (oB rfl rfl),z3 true rfl,z8 hg8_10 rfl,zr' rfl (oM rfl),zr' rfl (oM rfl),zr' rfl (oM rfl),zr' rfl (oB rfl (ibind (f := Value.int .i64) (Option.some.inj hv14))),zr' rfl (op_ix _ _ _ _ _ _ _ _ underlying22 sz5 (by decide) rfl rfl rfl (ix_ok hv15).1 (map_lt (ix_ok hv15).2) rfl),zr' rfl (op_load_e _ _ _ _ _ _ underlying5 rfl rfl rfl (map_get hv16)),zr' rfl (oM rfl),zr' rfl (oM rfl),zr' rfl (oM rfl),zr' rfl (oB rfl (ibind (f := Value.int .i64) (Option.some.inj hv17))),zr' rfl (oM rfl),zr' rfl (oB rfl (ibind (f := Value.int .i64) (Option.some.inj hv18))),zr' rfl (op_ix _ _ _ _ _ _ _ _ underlying22 sz5 (by decide) rfl rfl rfl (ix_ok hv19).1 (map_lt (ix_ok hv19).2) rfl),zr' rfl (op_load_e _ _ _ _ _ _ underlying5 rfl rfl rfl (map_get hv20)),zr' rfl (oB rfl rfl),z3 true rfl,zz⟩ ?_
            exact hl308 _ (Option.some.inj h).symm
           ·refine ht_anyR (by kernel_rfl) hn (El := (_ :: _ :: _ :: _ :: _ :: _ :: (30, .v (.int .i64 s293)) :: (31, .v (.bool ((decide (s293 < 258))))) :: (32, .v (.bool true)) :: (33, .v (.int .i64 at_)) :: (34, .v (.int .i64 s293)) :: (35, .v (.int .i64 v13)) :: (36, .fl .shr 1 (List.map (Value.int .u8) b)) :: (37, .v (.int .i64 (b.length : Int))) :: (38, .v (.bool ((decide (v13 < (b.length : Int)))))) :: (39, .v (.bool ((decide (v13 < (b.length : Int)))))) :: (40, .v (.bool false)) :: (41, .v undef) :: (42, .v undef) :: (43, .v undef) :: (44, .v undef) :: (45, .v undef) :: (46, .v undef) :: (47, .v undef) :: (48, .v undef) :: (49, .v undef) :: (50, .v undef) :: (51, .v undef) :: (52, .v undef) :: (53, .v undef) :: (54, .v undef) :: (55, .v undef) :: (56, .v (.bool false)) :: [])) (init := [0, 1, 2, 3, 4, 5]) (fin := [0, 1, 2, 3, 4, 5, 32]) (sps := (zq [5] 6 30 :: zq [6] 7 31 :: zq [7] 8 32 :: zq [8,1] 9 33 :: zq [8,5] 10 34 :: zq [8,9,10] 11 35 :: zq [8,0] 12 36 :: zq [8,12] 13 37 :: zq [8,11,13] 14 38 :: zq [8,14] 15 39 :: zq [15] 16 40 :: zq [16] 17 41 :: zq [16] 18 42 :: zq [16] 19 43 :: zq [16] 20 44 :: zq [16] 21 45 :: zq [16] 22 46 :: zq [16] 23 47 :: zq [16] 24 48 :: zq [16] 25 49 :: zq [16] 26 50 :: zq [16] 27 51 :: zq [16] 28 52 :: zq [16] 29 53 :: zq [16] 30 54 :: zq [16] 31 55 :: zq [16] 32 56 :: [])) (es' := [(_,_),(_,_),(_,_),(_,_),(_,_),(_,_),(56, .v (.bool false))]) (by kernel_rfl) rfl rfl ⟨z1 rfl,z4 rfl rfl,z8 hg8_2 rfl,zr' rfl (oM rfl),zr' rfl (oM rfl),zr' rfl (oB rfl (ibind (f := Value.int .i64) (Option.some.inj hv13))),zr' rfl (oM rfl),zr' rfl (op_len_fl _ _ _ underlying22 rfl (by decide) (map_len _)),zr' rfl (oB rfl rfl),z3 true rfl,z8 hg8_10 rfl,zt rfl,zt rfl,zt rfl,zt rfl,zt rfl,zt rfl,zt rfl,zt rfl,zt rfl,zt rfl,zt rfl,zt rfl,zt rfl,zt rfl,zt rfl,z3 false rfl,zz⟩ ?_
            exact hl308 _ (Option.some.inj h).symm
          ·refine ht_anyR (by kernel_rfl) hn (El := (_ :: _ :: _ :: _ :: _ :: _ :: (30, .v (.int .i64 s293)) :: (31, .v (.bool ((decide (s293 < 258))))) :: (32, .v (.bool false)) :: (33, .v undef) :: (34, .v undef) :: (35, .v undef) :: (36, .v undef) :: (37, .v undef) :: (38, .v undef) :: (39, .v (.bool false)) :: (40, .v (.bool false)) :: (41, .v undef) :: (42, .v undef) :: (43, .v undef) :: (44, .v undef) :: (45, .v undef) :: (46, .v undef) :: (47, .v undef) :: (48, .v undef) :: (49, .v undef) :: (50, .v undef) :: (51, .v undef) :: (52, .v undef) :: (53, .v undef) :: (54, .v undef) :: (55, .v undef) :: (56, .v (.bool false)) :: [])) (init := [0, 1, 2, 3, 4, 5]) (fin := [0, 1, 2, 3, 4, 5, 32]) (sps := (zq [5] 6 30 :: zq [6] 7 31 :: zq [7] 8 32 :: zq [8] 9 33 :: zq [8] 10 34 :: zq [8] 11 35 :: zq [8] 12 36 :: zq [8] 13 37 :: zq [8] 14 38 :: zq [8] 15 39 :: zq [15] 16 40 :: zq [16] 17 41 :: zq [16] 18 42 :: zq [16] 19 43 :: zq [16] 20 44 :: zq [16] 21 45 :: zq [16] 22 46 :: zq [16] 23 47 :: zq [16] 24 48 :: zq [16] 25 49 :: zq [16] 26 50 :: zq [16] 27 51 :: zq [16] 28 52 :: zq [16] 29 53 :: zq [16] 30 54 :: zq [16] 31 55 :: zq [16] 32 56 :: [])) (es' := [(_,_),(_,_),(_,_),(_,_),(_,_),(_,_),(56, .v (.bool false))]) (by kernel_rfl) rfl rfl ⟨z1 rfl,z4 rfl rfl,z8 hg8_2 rfl,zt rfl,zt rfl,zt rfl,zt rfl,zt rfl,zt rfl,z3 false rfl,z1 rfl,zt rfl,zt rfl,zt rfl,zt rfl,zt rfl,zt rfl,zt rfl,zt rfl,zt rfl,zt rfl,zt rfl,zt rfl,zt rfl,zt rfl,zt rfl,z3 false rfl,zz⟩ ?_
           exact hl308 _ (Option.some.inj h).symm
      ·have h := cond_f hb246 h
       refine ht_exit ?_
       refine pt_x_then ?_
       refine pt_x_then ?_
       refine pt_x_in ?_
       refine pt_pick [2, 3] (by kernel_rfl) (es' := [(_,_),(_,_)]) rfl ?_
       exact hl237 _ (ho239 _ (Option.some.inj h).symm).symm
     ·intro u243 h hl244 hr245
      refine cond_some h (fun hg5_3 h => ?_) (fun hg5_3 h => ?_)
      ·refine zg hn [_,_,_,_,_,(21,vi s163),(22,vi at_),(23,vb (decide (s163 ≤ at_))),(24,vb true),(25,vi s163),(26,vb (decide (s163 ≤ 2048))),(27,vb (decide (s163 ≤ 2048)))] [0,1,2,3,4] [0,1,2,3,4,11] [zq [4] 5 21,zq [1] 6 22,zq [5,6] 7 23,zq [7] 8 24,zq [8,4] 9 25,zq [8,9] 10 26,zq [8,10] 11 27] [(_,_),(_,_),(_,_),(_,_),(_,_),(_,_)] rfl ⟨z1 rfl,z1 rfl,z4 rfl rfl,z8 hg5_3 rfl,zr' rfl (oM rfl),zr' rfl (oB rfl rfl),z3 true rfl,zz⟩ ?_
       exact hl244 _ (Option.some.inj h).symm
      ·refine zg hn [_,_,_,_,_,(21,vi s163),(22,vi at_),(23,vb (decide (s163 ≤ at_))),(24,vb false),(25,.v undef),(26,.v undef),(27,vb false)] [0,1,2,3,4] [0,1,2,3,4,11] [zq [4] 5 21,zq [1] 6 22,zq [5,6] 7 23,zq [7] 8 24,zq [8] 9 25,zq [8] 10 26,zq [8] 11 27] [(_,_),(_,_),(_,_),(_,_),(_,_),(_,_)] rfl ⟨z1 rfl,z1 rfl,z4 rfl rfl,z8 hg5_3 rfl,zt rfl,zt rfl,z3 false rfl,zz⟩ ?_
       exact hl244 _ (Option.some.inj h).symm
  ·intro u4 h hl5 hr6
   refine cond_some h (fun hg1_3 h => ?_) (fun hg1_3 h => ?_)
   ·refine zg hn [_,_,(10,.fl .shr 1 (List.map (Value.int .u8) b)),(11,vi (b.length : Int)),(12,vb (decide (4096 < (b.length : Int)))),(13,vb true),(14,.v undef),(15,.v undef),(16,.v undef),(17,.v undef),(18,.v undef),(19,.v undef),(20,vb true)] [0,1] [0,1,12] [zq [0] 2 10,zq [2] 3 11,zq [3] 4 12,zq [4] 5 13,zq [5] 6 14,zq [5] 7 15,zq [5] 8 16,zq [5] 9 17,zq [5] 10 18,zq [5] 11 19,zq [5] 12 20] [(_,_),(_,_),(_,_)] rfl ⟨z1 rfl,zp rfl (op_len_fl _ _ _ underlying22 rfl (by decide) (map_len _)),z4 rfl rfl,z8 hg1_3 rfl,zf rfl,zf rfl,zf rfl,zf rfl,zf rfl,zf rfl,z3 true rfl,zz⟩ ?_
    exact hl5 _ (Option.some.inj h).symm
   ·obtain ⟨v1, hv1, h⟩ := bind_some h
    obtain ⟨v2, hv2, h⟩ := bind_some h
    refine zg hn [_,_,(10,.fl .shr 1 (List.map (Value.int .u8) b)),(11,vi (b.length : Int)),(12,vb (decide (4096 < (b.length : Int)))),(13,vb false),(14,vi at_),(15,.fl .shr 1 (List.map (Value.int .u8) b)),(16,vi (b.length : Int)),(17,vi v1),(18,vb v2),(19,vb (!v2)),(20,vb (!v2))] [0,1] [0,1,12] [zq [0] 2 10,zq [2] 3 11,zq [3] 4 12,zq [4] 5 13,zq [5,1] 6 14,zq [5,0] 7 15,zq [5,7] 8 16,zq [5,8] 9 17,zq [5,6,9] 10 18,zq [5,10] 11 19,zq [5,11] 12 20] [(_,_),(_,_),(_,_)] rfl ⟨z1 rfl,zp rfl (op_len_fl _ _ _ underlying22 rfl (by decide) (map_len _)),z4 rfl rfl,z8 hg1_3 rfl,zr' rfl (oM rfl),zr' rfl (oM rfl),zr' rfl (op_len_fl _ _ _ underlying22 rfl (by decide) (map_len _)),zr' rfl (oB rfl (ibind (f := Value.int .i64) (Option.some.inj hv1))),zr' rfl (op_call _ _ 32 _ _ rfl call32 rfl (ok_wherryref01_in at_ 0 v1 _ hv2) rfl rfl),zr' rfl (op_un _ _ _ _ rfl rfl),z3 false rfl,zz⟩ ?_
    exact hl5 _ (Option.some.inj h).symm
theorem ok_wherryref01_tokens (b : (List Int)) (r : (List T_Tok)) (h : Sh.wherryref01_tokens b = some r) : FnOK Try.prog 31 [.fl .shr 1 (List.map (Value.int .u8) b)] (.fl (.own 40) 3 (List.flatten (List.map T_Tok.enc r))) := by
  unfold Sh.wherryref01_tokens at h
  refine fn_ok func31 rfl (zl rfl) rfl rfl fun g0 hn hio => ?_
  refine zgg hn [_,(2,.v (.slice none 0 0))] [0] [0] [zq [] 1 2] [(_,_)] rfl ⟨z2 rfl,zz⟩ ?_
  refine zgg hn [_,(3,.v (.slice none 0 0))] [0] [0,1] [zq [] 1 3] [(_,_),(_,_)] rfl ⟨z2 rfl,zz⟩ ?_
  refine ht_seq ?_
  refine zgg hn [_,_,(4,vi 0)] [0,1] [0,1,2] [zq [] 2 4] [(_,_),(_,_),(_,_)] rfl ⟨z2 rfl,zz⟩ ?_
  refine ht_sub (fs := [(0, .fl .shr 1 (List.map (Value.int .u8) b)), (3, .fl (.own 40) 3 (List.flatten (List.map T_Tok.enc []))), (4, .v (.int .i64 0))]) (.same _ (.sub _ (sub_nil 40 3) rfl (.same _ .nil))) ?_
  refine ht_loopS h (fun ((s26, s27) : (List T_Tok) × Int) => [(0, .fl .shr 1 (List.map (Value.int .u8) b)), (3, .fl (.own 40) 3 (List.flatten (List.map T_Tok.enc s26))), (4, .v (.int .i64 s27))]) (fun (s36 : (List T_Tok)) => [(3, .fl (.own 40) 3 (List.flatten (List.map T_Tok.enc s36)))]) ?_ ?_
  ·rintro s36 h
   refine pt_then ?_
   refine zgg hn [_,(38,.fl (.own 40) 3 (List.flatten (List.map T_Tok.enc s36))),(2,.fl (.own 40) 3 (List.flatten (List.map T_Tok.enc s36)))] [0] [2] [⟨[],[0],[1],[(.slot 38)]⟩,⟨[],[1],[2],[(.slot 2)]⟩] [(_,_)] rfl ⟨zp rfl (op_move_take _ _ _ _ rfl),zp rfl (op_assign_take _ _ _ _ rfl),zz⟩ ?_
   refine ht_ret ?_
   obtain rfl := Option.some.inj h
   exact pt_ret hio rfl (.tmp _ _ .nil) rfl rfl
  ·rintro u37 hl38 hr39 ⟨s26, s27⟩ rr42 h ho40
   refine ht_seq ?_
   refine zgg hn [_,_,_,(7,vi s27),(8,.fl .shr 1 (List.map (Value.int .u8) b)),(9,vi (b.length : Int)),(10,vb (decide (s27 < (b.length : Int))))] [0,1,2] [0,1,2,6] [zq [2] 3 7,zq [0] 4 8,zq [4] 5 9,zq [3,5] 6 10] [(_,_),(_,_),(_,_),(_,_)] rfl ⟨z1 rfl,z1 rfl,zp rfl (op_len_fl _ _ _ underlying22 rfl (by decide) (map_len _)),z4 rfl rfl,zz⟩ ?_
   refine ht_cond _ rfl (fun hb43 => ?_) (fun hb43 => ?_)
   ·have h := cond_t hb43 h
    refine ht_skip ?_
    refine pt_then ?_
    refine ht_joinS h (fun ((s45, s46) : (List T_Tok) × Int) => [(0, .fl .shr 1 (List.map (Value.int .u8) b)), (3, .fl (.own 40) 3 (List.flatten (List.map T_Tok.enc s45))), (4, .v (.int .i64 s46))]) ?_ ?_
    ·rintro ⟨s45, s46⟩ h
     exact pt_next _ (Option.some.inj h).symm rfl
    ·intro u47 h hl48 hr49
     refine ht_block ?_
     refine ht_seq ?_
     obtain ⟨v2, hv2, h⟩ := bind_some h
     refine zg hn [_,_,_,_,(12,.fl .shr 1 (List.map (Value.int .u8) b)),(13,vi s27),(14,.tup [vi v2.1,vi v2.2]),(11,.tup [vi v2.1,vi v2.2]),(15,vi v2.1),(16,vi v2.2),(5,vi v2.1),(6,vi v2.2)] [0,1,2,3] [0,1,2,10,11] [zq [0] 4 12,zq [2] 5 13,zq [4,5] 6 14,⟨[],[6],[7],[(.slot 11)]⟩,zq [7] 8 15,zq [7] 9 16,zq [8] 10 5,zq [9] 11 6] [(_,_),(_,_),(_,_),(_,_),(_,_)] rfl ⟨z1 rfl,z1 rfl,zp rfl (op_call _ _ 17 _ _ rfl call17 rfl (ok_wherryref01_Best b s27 _ hv2) rfl rfl),zp rfl (op_move_take _ _ _ _ rfl),zp rfl (oE rfl),zp rfl (oE rfl),z2 rfl,z2 rfl,zz⟩ ?_
     refine pt_then ?_
     refine zgg hn [_,_,_,_,_,(17,vi v2.1),(18,vb (v2.1 == 0))] [0,1,2,3,4] [0,1,2,3,4,6] [zq [3] 5 17,zq [5] 6 18] [(_,_),(_,_),(_,_),(_,_),(_,_),(_,_)] rfl ⟨z1 rfl,z4 rfl rfl,zz⟩ ?_
     refine ht_cond _ rfl (fun hb50 => ?_) (fun hb50 => ?_)
     ·have h := cond_t hb50 h
      refine ht_seq ?_
      obtain ⟨v4, hv4, h⟩ := bind_some h
      obtain ⟨v5, hv5, h⟩ := bind_some h
      obtain ⟨v6, hv6, h⟩ := bind_some h
      refine zg hn (_::_::_::_::_::_::(19,.fl (.own 40) 3 (List.flatten (List.map T_Tok.enc s26)))::(20,.fl .shr 1 (List.map (Value.int .u8) b))::(21,vi s27)::(22,.eref (.slot 20) (v4 * 1))::(23,.v (.int .u8 v5))::(24,.agg [.v (.int .u8 v5),vi 0,vi 0])::(25,.fl (.own 40) 3 (List.flatten (List.map T_Tok.enc [(T_Tok.mk v5 0 0)])))::(26,.fl (.own 40) 3 (List.flatten (List.map T_Tok.enc v6)))::(19,.any)::(3,.fl (.own 40) 3 (List.flatten (List.map T_Tok.enc v6)))::[]) [0,1,2,3,4,5] [0,2,15] [⟨[],[1],[6],[(.slot 19)]⟩,zq [0] 7 20,zq [2] 8 21,zq [7,8] 9 22,zq [9,7] 10 23,zq [10] 11 24,zq [11] 12 25,⟨[12],[6],[14,13],[(.slot 26)]⟩,⟨[],[13],[15],[(.slot 3)]⟩] [(_,_),(_,_),(_,_)] rfl ⟨zp rfl (op_move_take _ _ _ _ rfl),z1 rfl,z1 rfl,zp rfl (op_ix _ _ _ _ _ _ _ _ underlying22 sz5 (by decide) rfl rfl rfl (ix_ok hv4).1 (map_lt (ix_ok hv4).2) rfl),zp rfl (op_load_e _ _ _ _ _ _ underlying5 rfl rfl rfl (map_get hv5)),zp rfl (op_build _ _ _ _ [1, 1, 1] _ _ underlying40 zr40 (fs40 _ underlying40) (.copy _ Src.nil) rfl rfl rfl),zp rfl (op_buildSlice _ _ 3 (.agg #[.int .u8 0, .int .i64 0, .int .i64 0]) (List.flatten (List.map T_Tok.enc [(T_Tok.mk v5 0 0)])) [(0, .agg #[.int .u8 v5, .int .i64 0, .int .i64 0])] underlying23 sz40 zr40 (fun _ V w o a hv hes => by have e0 := agg_v (ys := [.int .u8 v5, .int .i64 0, .int .i64 0]) hv hes (x := .tmp 24) rfl; simp only [List.map_toArray, List.map_cons, List.map_nil, e0]; try rfl) (litfill (by simp [Instr.fill, Value.cells]; rfl) (by simp [List.range, List.range.loop, T_Tok.enc] <;> rfl)) (by simp [Value.oneCell', T_Tok.enc]) rfl (by decide) (by decide) (by decide)),zp rfl (op_app _ _ _ _ _ el23 rfl rfl (flat_len T_Tok.len _) (flat_len T_Tok.len _) hv6 (flat_app (app_eq hv6))),zp rfl (op_assign_take _ _ _ _ rfl),zz⟩ ?_
      refine pt_then ?_
      obtain ⟨v7, hv7, h⟩ := bind_some h
      refine zg hn [_,_,_,(27,vi s27),(28,vi v7),(4,vi v7)] [0,1,2] [0,2,5] [zq [1] 3 27,zq [3] 4 28,⟨[4],[1],[5],[(.slot 4)]⟩] [(_,_),(_,_),(_,_)] rfl ⟨z1 rfl,zp rfl (oB rfl (ibind (f := Value.int .i64) (Option.some.inj hv7))),zp rfl (LOp.drop [_] (op_assign _ _ _ _ rfl rfl)),zz⟩ ?_
      refine pt_inb ?_
      exact hl48 _ (Option.some.inj h).symm
     ·have h := cond_f hb50 h
      refine ht_seq ?_
      obtain ⟨v8, hv8, h⟩ := bind_some h
      refine zg hn [_,_,_,_,_,_,(29,.fl (.own 40) 3 (List.flatten (List.map T_Tok.enc s26))),(30,vi v2.1),(31,vi v2.2),(32,.agg [.v (.int .u8 0),vi v2.1,vi v2.2]),(33,.fl (.own 40) 3 (List.flatten (List.map T_Tok.enc [(T_Tok.mk 0 v2.1 v2.2)]))),(34,.fl (.own 40) 3 (List.flatten (List.map T_Tok.enc v8))),(29,.any),(3,.fl (.own 40) 3 (List.flatten (List.map T_Tok.enc v8)))] [0,1,2,3,4,5] [0,2,3,13] [⟨[],[1],[6],[(.slot 29)]⟩,zq [3] 7 30,zq [4] 8 31,zq [7,8] 9 32,zq [9] 10 33,⟨[10],[6],[12,11],[(.slot 34)]⟩,⟨[],[11],[13],[(.slot 3)]⟩] [(_,_),(_,_),(_,_),(_,_)] rfl ⟨zp rfl (op_move_take _ _ _ _ rfl),z1 rfl,z1 rfl,zp rfl (op_build _ _ _ _ [1, 1, 1] _ _ underlying40 zr40 (fs40 _ underlying40) (.copy _ (.copy _ Src.nil)) rfl rfl rfl),zp rfl (op_buildSlice _ _ 3 (.agg #[.int .u8 0, .int .i64 0, .int .i64 0]) (List.flatten (List.map T_Tok.enc [(T_Tok.mk 0 v2.1 v2.2)])) [(0, .agg #[.int .u8 0, .int .i64 v2.1, .int .i64 v2.2])] underlying23 sz40 zr40 (fun _ V w o a hv hes => by have e0 := agg_v (ys := [.int .u8 0, .int .i64 v2.1, .int .i64 v2.2]) hv hes (x := .tmp 32) rfl; simp only [List.map_toArray, List.map_cons, List.map_nil, e0]; try rfl) (litfill (by simp [Instr.fill, Value.cells]; rfl) (by simp [List.range, List.range.loop, T_Tok.enc] <;> rfl)) (by simp [Value.oneCell', T_Tok.enc]) rfl (by decide) (by decide) (by decide)),zp rfl (op_app _ _ _ _ _ el23 rfl rfl (flat_len T_Tok.len _) (flat_len T_Tok.len _) hv8 (flat_app (app_eq hv8))),zp rfl (op_assign_take _ _ _ _ rfl),zz⟩ ?_
      refine pt_then ?_
      obtain ⟨v9, hv9, h⟩ := bind_some h
      refine zg hn [_,_,_,_,(35,vi s27),(36,vi v2.1),(37,vi v9),(4,vi v9)] [0,1,2,3] [0,3,7] [zq [1] 4 35,zq [2] 5 36,zq [4,5] 6 37,⟨[6],[1],[7],[(.slot 4)]⟩] [(_,_),(_,_),(_,_)] rfl ⟨z1 rfl,z1 rfl,zp rfl (oB rfl (ibind (f := Value.int .i64) (Option.some.inj hv9))),zp rfl (LOp.drop [_] (op_assign _ _ _ _ rfl rfl)),zz⟩ ?_
      refine pt_inb ?_
      exact hl48 _ (Option.some.inj h).symm
   ·have h := cond_f hb43 h
    refine ht_exit ?_
    refine pt_x_then ?_
    refine pt_x_then ?_
    refine pt_x_in ?_
    refine pt_pick [1] (by kernel_rfl) (es' := [(_,_)]) rfl ?_
    exact hl38 _ (ho40 _ (Option.some.inj h).symm).symm
theorem ok_wherryref01_Tokens (b : (List Int)) (r : ((List T_Tok) × Int)) (h : Sh.wherryref01_Tokens b = some r) : FnOK Try.prog 15 [.fl .shr 1 (List.map (Value.int .u8) b)] (.tup [.fl (.own 40) 3 (List.flatten (List.map T_Tok.enc r.1)), .v (.int .i64 r.2)]) := by
  unfold Sh.wherryref01_Tokens at h
  refine fn_ok func15 rfl (zl rfl) rfl rfl fun g0 hn hio => ?_
  refine zgg hn [_,(2,.v (.slice none 0 0)),(3,vi 0)] [0] [0] [zq [] 1 2,zq [] 2 3] [(_,_)] rfl ⟨z2 rfl,z2 rfl,zz⟩ ?_
  refine ht_seq ?_
  refine zgg hn [_,(4,.fl .shr 1 (List.map (Value.int .u8) b)),(5,vi (b.length : Int)),(6,vb (decide (4096 < (b.length : Int))))] [0] [0,3] [zq [0] 1 4,zq [1] 2 5,zq [2] 3 6] [(_,_),(_,_)] rfl ⟨z1 rfl,zp rfl (op_len_fl _ _ _ underlying22 rfl (by decide) (map_len _)),z4 rfl rfl,zz⟩ ?_
  refine ht_cond _ rfl (fun hb1 => ?_) (fun hb1 => ?_)
  ·have h := cond_t hb1 h
   refine zgg hn [_,_,(2,.v (.slice none 0 0)),(3,vi 2)] [0,1] [2,3] [zq [] 2 2,zq [] 3 3] [(_,_),(_,_)] rfl ⟨z2 rfl,z2 rfl,zz⟩ ?_
   refine ht_ret ?_
   refine pt_sub (fs := [(2, .fl (.own 40) 3 (List.flatten (List.map T_Tok.enc []))), (3, .v (.int .i64 2))]) (.sub _ (sub_nil 40 3) rfl (.same _ .nil)) ?_
   refine pt_r_then ?_
   obtain rfl := Option.some.inj h
   exact pt_ret hio rfl (.tmp _ _ (.tmp _ _ .nil)) rfl rfl
  ·have h := cond_f hb1 h
   refine ht_skip ?_
   refine pt_then (ht_seq ?_)
   obtain ⟨v2, hv2, h⟩ := bind_some h
   refine zg hn [_,_,(7,.fl .shr 1 (List.map (Value.int .u8) b)),(8,.fl (.own 40) 3 (List.flatten (List.map T_Tok.enc v2))),(2,.fl (.own 40) 3 (List.flatten (List.map T_Tok.enc v2))),(3,vi 0)] [0,1] [4,5] [zq [0] 2 7,zq [2] 3 8,⟨[],[3],[4],[(.slot 2)]⟩,zq [] 5 3] [(_,_),(_,_)] rfl ⟨z1 rfl,zp rfl (op_call _ _ 31 _ _ rfl call31 rfl (ok_wherryref01_tokens b _ hv2) rfl rfl),zp rfl (op_assign_take _ _ _ _ rfl),z2 rfl,zz⟩ ?_
   refine pt_then (ht_ret ?_)
   obtain rfl := Option.some.inj h
   exact pt_ret hio rfl (.tmp _ _ (.tmp _ _ .nil)) rfl rfl
theorem ok_wherrylaw04_wherryToks (b : (List Int)) (r : (List T_Tok)) (h : Sh.wherrylaw04_wherryToks b = some r) : FnOK Try.prog 27 [.fl .shr 1 (List.map (Value.int .u8) b)] (.fl (.own 40) 3 (List.flatten (List.map T_Tok.enc r))) := by
  unfold Sh.wherrylaw04_wherryToks at h
  refine fn_ok func27 rfl (zl rfl) rfl rfl fun g0 hn hio => ?_
  refine zgg hn [_,(2,.v (.slice none 0 0))] [0] [0] [zq [] 1 2] [(_,_)] rfl ⟨z2 rfl,zz⟩ ?_
  refine ht_seq ?_
  obtain ⟨v1, hv1, h⟩ := bind_some h
  refine zg hn [_,(6,.fl .shr 1 (List.map (Value.int .u8) b)),(7,.tup [.fl (.own 40) 3 (List.flatten (List.map T_Tok.enc v1.1)),vi v1.2]),(5,.tup [.fl (.own 40) 3 (List.flatten (List.map T_Tok.enc v1.1)),vi v1.2]),(8,.fl (.own 40) 3 (List.flatten (List.map T_Tok.enc v1.1))),(5,.tup [.any,vi v1.2]),(9,vi v1.2),(3,.fl (.own 40) 3 (List.flatten (List.map T_Tok.enc v1.1))),(4,vi v1.2)] [0] [7] [zq [0] 1 6,zq [1] 2 7,⟨[],[2],[3],[(.slot 5)]⟩,⟨[],[3],[5,4],[(.slot 8)]⟩,zq [5] 6 9,⟨[],[4],[7],[(.slot 3)]⟩,zq [6] 8 4] [(_,_)] rfl ⟨z1 rfl,zp rfl (op_call _ _ 15 _ _ rfl call15 rfl (ok_wherryref01_Tokens b _ hv1) rfl rfl),zp rfl (op_move_take _ _ _ _ rfl),zp rfl (op_extract_take _ _ _ _ _ rfl (zl rfl) rfl rfl (by decide) rfl),zp rfl (oE rfl),zp rfl (op_assign_take _ _ _ _ rfl),z2 rfl,zz⟩ ?_
  refine pt_then ?_
  refine zgg hn [_,(10,.fl (.own 40) 3 (List.flatten (List.map T_Tok.enc v1.1))),(2,.fl (.own 40) 3 (List.flatten (List.map T_Tok.enc v1.1)))] [0] [2] [⟨[],[0],[1],[(.slot 10)]⟩,⟨[],[1],[2],[(.slot 2)]⟩] [(_,_)] rfl ⟨zp rfl (op_move_take _ _ _ _ rfl),zp rfl (op_assign_take _ _ _ _ rfl),zz⟩ ?_
  refine ht_ret ?_
  obtain rfl := Option.some.inj h
  exact pt_ret hio rfl (.tmp _ _ .nil) rfl rfl
theorem ok_wherrykeep_TwinToks (l : (List T_Tok)) (r : (List T_Tok)) (h : Sh.wherrykeep_TwinToks l = some r) : FnOK Try.prog 13 [.fl .shr 3 (List.flatten (List.map T_Tok.enc l))] (.fl (.own 40) 3 (List.flatten (List.map T_Tok.enc r))) := by
  unfold Sh.wherrykeep_TwinToks at h
  refine fn_ok func13 rfl (zl rfl) rfl rfl fun g0 hn hio => ?_
  refine zgg hn [_,(2,.v (.slice none 0 0))] [0] [0] [zq [] 1 2] [(_,_)] rfl ⟨z2 rfl,zz⟩ ?_
  refine zgg hn [_,(3,.v (.slice none 0 0))] [0] [0,1] [zq [] 1 3] [(_,_),(_,_)] rfl ⟨z2 rfl,zz⟩ ?_
  refine ht_seq ?_
  obtain ⟨v1, hv1, h⟩ := bind_some h
  refine zg hn [_,_,(4,.v (.slice none 0 0)),(5,.fl .shr 3 (List.flatten (List.map T_Tok.enc l))),(6,.fl (.own 40) 3 (List.flatten (List.map T_Tok.enc v1))),(2,.fl (.own 40) 3 (List.flatten (List.map T_Tok.enc v1)))] [0,1] [5] [zq [1] 2 4,zq [0] 3 5,zq [2,3] 4 6,⟨[],[4],[5],[(.slot 2)]⟩] [(_,_)] rfl ⟨z1 rfl,z1 rfl,zp rfl (op_app_nil _ _ _ _ el23 rfl rfl (flat_len T_Tok.len _) hv1 (congrArg (fun l => List.flatten (List.map _ l)) (app_nil_eq hv1))),zp rfl (op_assign_take _ _ _ _ rfl),zz⟩ ?_
  refine pt_then (ht_ret ?_)
  obtain rfl := Option.some.inj h
  exact pt_ret hio rfl (.tmp _ _ .nil) rfl rfl
theorem ok_match_validMatch (t : T_Tok) (r : Bool) (h : Sh.match_validMatch t = some r) : FnOK Try.prog 33 [.agg [.v (.int .u8 t.Byte), .v (.int .i64 t.Len), .v (.int .i64 t.Dist)]] (.v (.bool r)) := by
  unfold Sh.match_validMatch at h
  refine fn_ok func33 rfl (zl rfl) rfl rfl fun g0 hn hio => ?_
  refine zgg hn [_,(1,.box 40 [.v (.int .u8 t.Byte),vi t.Len,vi t.Dist]),(2,vb false)] [0] [1] [zq [0] 1 1,zq [] 2 2] [(_,_)] rfl ⟨zp rfl (op_box _ _ _ _ rfl rfl rfl),z2 rfl,zz⟩ ?_
  refine ht_seq ?_
  refine ht_joinS h (fun (s1 : Bool) => [(2, .v (.bool s1))]) ?_ ?_
  ·rintro s1 h
   refine pt_then (ht_ret ?_)
   obtain rfl := Option.some.inj h
   exact pt_ret hio rfl (.tmp _ _ .nil) rfl rfl
  ·intro u2 h hl3 hr4
   refine cond_some h (fun hg1_3 h => ?_) (fun hg1_3 h => ?_)
   ·refine cond_some h (fun hg1_8 h => ?_) (fun hg1_8 h => ?_)
    ·refine cond_some h (fun hg1_13 h => ?_) (fun hg1_13 h => ?_)
     ·refine cond_some h (fun hg1_18 h => ?_) (fun hg1_18 h => ?_)
      ·refine zg hn (_::(3,.ptr 1 0)::(4,.v (.int .u8 t.Byte))::(5,vb (t.Byte == 0))::(6,vb true)::(7,.ptr 1 1)::(8,vi t.Len)::(9,vb (decide (3 ≤ t.Len)))::(10,vb (decide (3 ≤ t.Len)))::(11,vb true)::(12,.ptr 1 1)::(13,vi t.Len)::(14,vb (decide (t.Len ≤ 258)))::(15,vb (decide (t.Len ≤ 258)))::(16,vb true)::(17,.ptr 1 2)::(18,vi t.Dist)::(19,vb (decide (1 ≤ t.Dist)))::(20,vb (decide (1 ≤ t.Dist)))::(21,vb true)::(22,.ptr 1 2)::(23,vi t.Dist)::(24,vb (decide (t.Dist ≤ 2048)))::(25,vb (decide (t.Dist ≤ 2048)))::(2,vb (decide (t.Dist ≤ 2048)))::[]) [0] [24] (zq [0] 1 3::zq [1,0] 2 4::zq [2] 3 5::zq [3] 4 6::zq [4,0] 5 7::zq [4,5,0] 6 8::zq [4,6] 7 9::zq [4,7] 8 10::zq [8] 9 11::zq [9,0] 10 12::zq [9,10,0] 11 13::zq [9,11] 12 14::zq [9,12] 13 15::zq [13] 14 16::zq [14,0] 15 17::zq [14,15,0] 16 18::zq [14,16] 17 19::zq [14,17] 18 20::zq [18] 19 21::zq [19,0] 20 22::zq [19,20,0] 21 23::zq [19,21] 22 24::zq [19,22] 23 25::zq [23] 24 2::[]) [(_,_)] rfl ⟨zp rfl (oF underlying40 rfl sz5),zp rfl (oL underlying5 rfl),z4 rfl rfl,z8 hg1_3 rfl,zr' rfl (oF underlying40 rfl sz3),zr' rfl (oL underlying3 rfl),zr' rfl (oB rfl rfl),z3 true rfl,z8 hg1_8 rfl,zr' rfl (oF underlying40 rfl sz3),zr' rfl (oL underlying3 rfl),zr' rfl (oB rfl rfl),z3 true rfl,z8 hg1_13 rfl,zr' rfl (oF underlying40 rfl sz3),zr' rfl (oL underlying3 rfl),zr' rfl (oB rfl rfl),z3 true rfl,z8 hg1_18 rfl,zr' rfl (oF underlying40 rfl sz3),zr' rfl (oL underlying3 rfl),zr' rfl (oB rfl rfl),z3 true rfl,z2 rfl,zz⟩ ?_
       exact hl3 _ (Option.some.inj h).symm
      ·refine zg hn (_::(3,.ptr 1 0)::(4,.v (.int .u8 t.Byte))::(5,vb (t.Byte == 0))::(6,vb true)::(7,.ptr 1 1)::(8,vi t.Len)::(9,vb (decide (3 ≤ t.Len)))::(10,vb (decide (3 ≤ t.Len)))::(11,vb true)::(12,.ptr 1 1)::(13,vi t.Len)::(14,vb (decide (t.Len ≤ 258)))::(15,vb (decide (t.Len ≤ 258)))::(16,vb true)::(17,.ptr 1 2)::(18,vi t.Dist)::(19,vb (decide (1 ≤ t.Dist)))::(20,vb (decide (1 ≤ t.Dist)))::(21,vb false)::(22,.v undef)::(23,.v undef)::(24,.v undef)::(25,vb false)::(2,vb false)::[]) [0] [24] (zq [0] 1 3::zq [1,0] 2 4::zq [2] 3 5::zq [3] 4 6::zq [4,0] 5 7::zq [4,5,0] 6 8::zq [4,6] 7 9::zq [4,7] 8 10::zq [8] 9 11::zq [9,0] 10 12::zq [9,10,0] 11 13::zq [9,11] 12 14::zq [9,12] 13 15::zq [13] 14 16::zq [14,0] 15 17::zq [14,15,0] 16 18::zq [14,16] 17 19::zq [14,17] 18 20::zq [18] 19 21::zq [19] 20 22::zq [19] 21 23::zq [19] 22 24::zq [19] 23 25::zq [23] 24 2::[]) [(_,_)] rfl ⟨zp rfl (oF underlying40 rfl sz5),zp rfl (oL underlying5 rfl),z4 rfl rfl,z8 hg1_3 rfl,zr' rfl (oF underlying40 rfl sz3),zr' rfl (oL underlying3 rfl),zr' rfl (oB rfl rfl),z3 true rfl,z8 hg1_8 rfl,zr' rfl (oF underlying40 rfl sz3),zr' rfl (oL underlying3 rfl),zr' rfl (oB rfl rfl),z3 true rfl,z8 hg1_13 rfl,zr' rfl (oF underlying40 rfl sz3),zr' rfl (oL underlying3 rfl),zr' rfl (oB rfl rfl),z3 true rfl,z8 hg1_18 rfl,zt rfl,zt rfl,zt rfl,z3 false rfl,z2 rfl,zz⟩ ?_
       exact hl3 _ (Option.some.inj h).symm
     ·refine zg hn (_::(3,.ptr 1 0)::(4,.v (.int .u8 t.Byte))::(5,vb (t.Byte == 0))::(6,vb true)::(7,.ptr 1 1)::(8,vi t.Len)::(9,vb (decide (3 ≤ t.Len)))::(10,vb (decide (3 ≤ t.Len)))::(11,vb true)::(12,.ptr 1 1)::(13,vi t.Len)::(14,vb (decide (t.Len ≤ 258)))::(15,vb (decide (t.Len ≤ 258)))::(16,vb false)::(17,.v undef)::(18,.v undef)::(19,.v undef)::(20,vb false)::(21,vb false)::(22,.v undef)::(23,.v undef)::(24,.v undef)::(25,vb false)::(2,vb false)::[]) [0] [24] (zq [0] 1 3::zq [1,0] 2 4::zq [2] 3 5::zq [3] 4 6::zq [4,0] 5 7::zq [4,5,0] 6 8::zq [4,6] 7 9::zq [4,7] 8 10::zq [8] 9 11::zq [9,0] 10 12::zq [9,10,0] 11 13::zq [9,11] 12 14::zq [9,12] 13 15::zq [13] 14 16::zq [14] 15 17::zq [14] 16 18::zq [14] 17 19::zq [14] 18 20::zq [18] 19 21::zq [19] 20 22::zq [19] 21 23::zq [19] 22 24::zq [19] 23 25::zq [23] 24 2::[]) [(_,_)] rfl ⟨zp rfl (oF underlying40 rfl sz5),zp rfl (oL underlying5 rfl),z4 rfl rfl,z8 hg1_3 rfl,zr' rfl (oF underlying40 rfl sz3),zr' rfl (oL underlying3 rfl),zr' rfl (oB rfl rfl),z3 true rfl,z8 hg1_8 rfl,zr' rfl (oF underlying40 rfl sz3),zr' rfl (oL underlying3 rfl),zr' rfl (oB rfl rfl),z3 true rfl,z8 hg1_13 rfl,zt rfl,zt rfl,zt rfl,z3 false rfl,z1 rfl,zt rfl,zt rfl,zt rfl,z3 false rfl,z2 rfl,zz⟩ ?_
      exact hl3 _ (Option.some.inj h).symm
    ·refine zg hn (_::(3,.ptr 1 0)::(4,.v (.int .u8 t.Byte))::(5,vb (t.Byte == 0))::(6,vb true)::(7,.ptr 1 1)::(8,vi t.Len)::(9,vb (decide (3 ≤ t.Len)))::(10,vb (decide (3 ≤ t.Len)))::(11,vb false)::(12,.v undef)::(13,.v undef)::(14,.v undef)::(15,vb false)::(16,vb false)::(17,.v undef)::(18,.v undef)::(19,.v undef)::(20,vb false)::(21,vb false)::(22,.v undef)::(23,.v undef)::(24,.v undef)::(25,vb false)::(2,vb false)::[]) [0] [24] (zq [0] 1 3::zq [1,0] 2 4::zq [2] 3 5::zq [3] 4 6::zq [4,0] 5 7::zq [4,5,0] 6 8::zq [4,6] 7 9::zq [4,7] 8 10::zq [8] 9 11::zq [9] 10 12::zq [9] 11 13::zq [9] 12 14::zq [9] 13 15::zq [13] 14 16::zq [14] 15 17::zq [14] 16 18::zq [14] 17 19::zq [14] 18 20::zq [18] 19 21::zq [19] 20 22::zq [19] 21 23::zq [19] 22 24::zq [19] 23 25::zq [23] 24 2::[]) [(_,_)] rfl ⟨zp rfl (oF underlying40 rfl sz5),zp rfl (oL underlying5 rfl),z4 rfl rfl,z8 hg1_3 rfl,zr' rfl (oF underlying40 rfl sz3),zr' rfl (oL underlying3 rfl),zr' rfl (oB rfl rfl),z3 true rfl,z8 hg1_8 rfl,zt rfl,zt rfl,zt rfl,z3 false rfl,z1 rfl,zt rfl,zt rfl,zt rfl,z3 false rfl,z1 rfl,zt rfl,zt rfl,zt rfl,z3 false rfl,z2 rfl,zz⟩ ?_
     exact hl3 _ (Option.some.inj h).symm
   ·refine zg hn (_::(3,.ptr 1 0)::(4,.v (.int .u8 t.Byte))::(5,vb (t.Byte == 0))::(6,vb false)::(7,.v undef)::(8,.v undef)::(9,.v undef)::(10,vb false)::(11,vb false)::(12,.v undef)::(13,.v undef)::(14,.v undef)::(15,vb false)::(16,vb false)::(17,.v undef)::(18,.v undef)::(19,.v undef)::(20,vb false)::(21,vb false)::(22,.v undef)::(23,.v undef)::(24,.v undef)::(25,vb false)::(2,vb false)::[]) [0] [24] (zq [0] 1 3::zq [1,0] 2 4::zq [2] 3 5::zq [3] 4 6::zq [4] 5 7::zq [4] 6 8::zq [4] 7 9::zq [4] 8 10::zq [8] 9 11::zq [9] 10 12::zq [9] 11 13::zq [9] 12 14::zq [9] 13 15::zq [13] 14 16::zq [14] 15 17::zq [14] 16 18::zq [14] 17 19::zq [14] 18 20::zq [18] 19 21::zq [19] 20 22::zq [19] 21 23::zq [19] 22 24::zq [19] 23 25::zq [23] 24 2::[]) [(_,_)] rfl ⟨zp rfl (oF underlying40 rfl sz5),zp rfl (oL underlying5 rfl),z4 rfl rfl,z8 hg1_3 rfl,zt rfl,zt rfl,zt rfl,z3 false rfl,z1 rfl,zt rfl,zt rfl,zt rfl,z3 false rfl,z1 rfl,zt rfl,zt rfl,zt rfl,z3 false rfl,z1 rfl,zt rfl,zt rfl,zt rfl,z3 false rfl,z2 rfl,zz⟩ ?_
    exact hl3 _ (Option.some.inj h).symm
theorem ok_match_Check (l : (List T_Tok)) (r : Int) (h : Sh.match_Check l = some r) : FnOK Try.prog 22 [.fl .shr 3 (List.flatten (List.map T_Tok.enc l))] (.v (.int .i64 r)) := by
  unfold Sh.match_Check at h
  refine fn_ok func22 rfl (zl rfl) rfl rfl fun g0 hn hio => ?_
  refine zgg hn [_,(2,vi 0)] [0] [0] [zq [] 1 2] [(_,_)] rfl ⟨z2 rfl,zz⟩ ?_
  refine zgg hn [_,(3,vi 0)] [0] [0,1] [zq [] 1 3] [(_,_),(_,_)] rfl ⟨z2 rfl,zz⟩ ?_
  refine ht_seq ?_
  refine zgg hn [_,_,(6,.fl .shr 3 (List.flatten (List.map T_Tok.enc l))),(7,vi (l.length : Int)),(8,vi 0)] [0,1] [1,2,3,4] [zq [0] 2 6,zq [2] 3 7,zq [] 4 8] [(_,_),(_,_),(_,_),(_,_)] rfl ⟨z1 rfl,zp rfl (op_len_fl _ _ _ underlying23 rfl (by decide) (flat_len T_Tok.len _)),z1 rfl,zz⟩ ?_
  refine ht_loopS h (fun ((s115, s116) : Int × Int) => [(3, .v (.int .i64 s115)), (6, .fl .shr 3 (List.flatten (List.map T_Tok.enc l))), (7, .v (.int .i64 (l.length : Int))), (8, .v (.int .i64 s116))]) (fun (s170 : Int) => [(3, .v (.int .i64 s170))]) ?_ ?_
  ·rintro s170 h
   refine pt_then (ht_seq ?_)
   refine zgg hn [_,(37,vi s170),(38,vb (decide (4096 < s170)))] [0] [2] [zq [0] 1 37,zq [1] 2 38] [(_,_)] rfl ⟨z1 rfl,z4 rfl rfl,zz⟩ ?_
   refine ht_cond _ rfl (fun hb230 => ?_) (fun hb230 => ?_)
   ·have h := cond_t hb230 h
    refine zgg hn [_,(2,vi 2)] [0] [1] [zq [] 1 2] [(_,_)] rfl ⟨z2 rfl,zz⟩ ?_
    refine ht_ret ?_
    refine pt_r_then ?_
    obtain rfl := Option.some.inj h
    exact pt_ret hio rfl (.tmp _ _ .nil) rfl rfl
   ·have h := cond_f hb230 h
    refine ht_skip ?_
    refine pt_then ?_
    refine zgg hn [_,(2,vi 0)] [0] [1] [zq [] 1 2] [(_,_)] rfl ⟨z2 rfl,zz⟩ ?_
    refine ht_ret ?_
    obtain rfl := Option.some.inj h
    exact pt_ret hio rfl (.tmp _ _ .nil) rfl rfl
  ·rintro u171 hl172 hr173 ⟨s115, s116⟩ rr176 h ho174
   refine zgg hn [_,_,_,_,(9,vb (decide (s116 < (l.length : Int))))] [0,1,2,3] [0,1,2,3,4] [zq [3,2] 4 9] [(_,_),(_,_),(_,_),(_,_),(_,_)] rfl ⟨z4 rfl rfl,zz⟩ ?_
   refine ht_seq ?_
   refine ht_cond _ rfl (fun hb177 => ?_) (fun hb177 => ?_)
   ·have h := cond_t hb177 h
    refine ht_skip ?_
    refine pt_then (ht_seq ?_)
    refine ht_joinS h (fun (s202 : Int) => [(6, .fl .shr 3 (List.flatten (List.map T_Tok.enc l))), (7, .v (.int .i64 (l.length : Int))), (8, .v (.int .i64 s116)), (3, .v (.int .i64 s202))]) ?_ ?_
    ·rintro s202 h
     refine pt_then ?_
     obtain ⟨v59, hv59, h⟩ := bind_some h
     refine zg hn [_,_,_,_,(36,vi v59),(8,vi v59)] [0,1,2,3] [0,1,3,5] [zq [2] 4 36,⟨[4],[2],[5],[(.slot 8)]⟩] [(_,_),(_,_),(_,_),(_,_)] rfl ⟨zp rfl (oB rfl (ibind (f := Value.int .i64) (Option.some.inj hv59))),zp rfl (LOp.drop [_] (oM rfl)),zz⟩ ?_
     refine pt_pick [2, 0, 1, 3] (by kernel_rfl) (es' := [(_,_),(_,_),(_,_),(_,_)]) rfl ?_
     exact pt_next _ (Option.some.inj h).symm rfl
    ·intro u203 h hl204 hr205
     refine ht_block ?_
     refine ht_seq ?_
     obtain ⟨v2, hv2, h⟩ := bind_some h
     obtain ⟨v3, hv3, h⟩ := bind_some h
     refine zg hn [_,_,_,_,_,(10,.eref (.slot 6) (v2 * 3)),(11,.agg [.v (.int .u8 v3.Byte),vi v3.Len,vi v3.Dist]),(5,.box 40 [.v (.int .u8 0),vi 0,vi 0]),(5,.box 40 [.v (.int .u8 v3.Byte),vi v3.Len,vi v3.Dist])] [0,1,2,3,4] [0,1,2,3,8] [zq [1,3] 5 10,zq [5,1] 6 11,zq [] 7 5,⟨[6],[7],[8],[.cell 5 0,.cell 5 1,.cell 5 2]⟩] [(_,_),(_,_),(_,_),(_,_),(_,_)] rfl ⟨zp rfl (op_ix _ _ _ _ _ _ _ _ underlying23 sz40 (by decide) rfl rfl rfl (ix_ok hv2).1 (flat_lt T_Tok.len (ix_ok hv2).2) rfl),zp rfl (op_load_eA _ _ _ _ _ _ _ underlying40 rfl sz40 rfl rfl (flat_get T_Tok.len hv3) rfl (by decide)),zp rfl (op_alloc _ _ zr40),zp rfl (oS sz40 rfl),zz⟩ ?_
     refine pt_then ?_
     refine ht_joinS h (fun (s216 : Int) => [(6, .fl .shr 3 (List.flatten (List.map T_Tok.enc l))), (7, .v (.int .i64 (l.length : Int))), (8, .v (.int .i64 s116)), (3, .v (.int .i64 s216))]) ?_ ?_
     ·rintro s216 h
      refine pt_inb ?_
      exact hl204 _ (Option.some.inj h).symm
     ·intro u217 h hl218 hr219
      refine ht_block ?_
      refine ht_seq ?_
      refine ht_joinS h (fun (s220 : Bool) => [(3, .v (.int .i64 s115)), (6, .fl .shr 3 (List.flatten (List.map T_Tok.enc l))), (7, .v (.int .i64 (l.length : Int))), (8, .v (.int .i64 s116)), (5, .box 40 [.v (.int .u8 v3.Byte), .v (.int .i64 v3.Len), .v (.int .i64 v3.Dist)]), (12, .v (.bool s220))]) ?_ ?_
      ·rintro s220 h
       refine pt_then ?_
       refine ht_cond _ rfl (fun hb224 => ?_) (fun hb224 => ?_)
       ·have h := cond_t hb224 h
        obtain ⟨v9, hv9, h⟩ := bind_some h
        refine zg hn [_,_,_,_,_,_,(21,vi s115),(22,vi v9),(3,vi v9)] [0,1,2,3,4,5] [1,2,3,8] [zq [0] 6 21,zq [6] 7 22,⟨[7],[0],[8],[(.slot 3)]⟩] [(_,_),(_,_),(_,_),(_,_)] rfl ⟨z1 rfl,zp rfl (oB rfl (ibind (f := Value.int .i64) (Option.some.inj hv9))),zp rfl (LOp.drop [_] (op_assign _ _ _ _ rfl rfl)),zz⟩ ?_
        refine pt_inb ?_
        exact hl218 _ (Option.some.inj h).symm
       ·have h := cond_f hb224 h
        refine ht_seq ?_
        refine ht_joinS h (fun (s225 : Bool) => [(3, .v (.int .i64 s115)), (6, .fl .shr 3 (List.flatten (List.map T_Tok.enc l))), (7, .v (.int .i64 (l.length : Int))), (8, .v (.int .i64 s116)), (5, .box 40 [.v (.int .u8 v3.Byte), .v (.int .i64 v3.Len), .v (.int .i64 v3.Dist)]), (23, .v (.bool s225))]) ?_ ?_
        ·rintro s225 h
         refine pt_then ?_
         refine ht_cond _ rfl (fun hb229 => ?_) (fun hb229 => ?_)
         ·have h := cond_t hb229 h
          obtain ⟨v16, hv16, h⟩ := bind_some h
          refine zg hn [_,_,_,_,_,_,(32,vi s115),(33,.ptr 5 1),(34,vi v3.Len),(35,vi v16),(3,vi v16)] [0,1,2,3,4,5] [1,2,3,10] [zq [0] 6 32,zq [4] 7 33,zq [7,4] 8 34,zq [6,8] 9 35,⟨[9],[0],[10],[(.slot 3)]⟩] [(_,_),(_,_),(_,_),(_,_)] rfl ⟨z1 rfl,zp rfl (oF underlying40 rfl sz3),zp rfl (oL underlying3 rfl),zp rfl (oB rfl (ibind (f := Value.int .i64) (Option.some.inj hv16))),zp rfl (LOp.drop [_] (op_assign _ _ _ _ rfl rfl)),zz⟩ ?_
          refine pt_inb ?_
          exact hl218 _ (Option.some.inj h).symm
         ·have h := cond_f hb229 h
          refine zgg hn [_,_,_,_,_,_,(2,vi 1)] [0,1,2,3,4,5] [6] [zq [] 6 2] [(_,_)] rfl ⟨z2 rfl,zz⟩ ?_
          refine ht_ret ?_
          refine pt_r_in ?_
          refine pt_r_in ?_
          refine pt_r_then ?_
          refine pt_r_then ?_
          refine pt_r_in ?_
          refine pt_r_then ?_
          have h := hr219 _ (Option.some.inj h).symm
          have h := hr205 _ (Option.some.inj h).symm
          have h := hr173 _ (ho174 _ (Option.some.inj h).symm).symm
          obtain rfl := Option.some.inj h
          exact pt_ret hio rfl (.tmp _ _ .nil) rfl rfl
        ·intro u226 h hl227 hr228
         obtain ⟨v10, hv10, h⟩ := bind_some h
         refine cond_some h (fun hg8_2 h => ?_) (fun hg8_2 h => ?_)
         ·refine zg hn (_::_::_::_::_::_::(24,.agg [.v (.int .u8 v3.Byte),vi v3.Len,vi v3.Dist])::(25,vb v10)::(26,vb true)::(27,.ptr 5 2)::(28,vi v3.Dist)::(29,vi s115)::(30,vb (decide (v3.Dist ≤ s115)))::(31,vb (decide (v3.Dist ≤ s115)))::(23,vb (decide (v3.Dist ≤ s115)))::[]) [0,1,2,3,4,5] [0,1,2,3,4,14] [zq [4] 6 24,zq [6] 7 25,zq [7] 8 26,zq [8,4] 9 27,zq [8,9,4] 10 28,zq [8,0] 11 29,zq [8,10,11] 12 30,zq [8,12] 13 31,zq [13] 14 23] [(_,_),(_,_),(_,_),(_,_),(_,_),(_,_)] rfl ⟨zp rfl (op_loadA _ _ _ _ _ _ _ underlying40 rfl sz40 rfl rfl (zl rfl) rfl rfl),zp rfl (op_call _ _ 33 _ _ rfl call33 rfl (ok_match_validMatch v3 _ hv10) rfl rfl),z8 hg8_2 rfl,zr' rfl (oF underlying40 rfl sz3),zr' rfl (oL underlying3 rfl),zr' rfl (oM rfl),zr' rfl (oB rfl rfl),z3 true rfl,z2 rfl,zz⟩ ?_
          exact hl227 _ (Option.some.inj h).symm
         ·refine zg hn (_::_::_::_::_::_::(24,.agg [.v (.int .u8 v3.Byte),vi v3.Len,vi v3.Dist])::(25,vb v10)::(26,vb false)::(27,.v undef)::(28,.v undef)::(29,.v undef)::(30,.v undef)::(31,vb false)::(23,vb false)::[]) [0,1,2,3,4,5] [0,1,2,3,4,14] [zq [4] 6 24,zq [6] 7 25,zq [7] 8 26,zq [8] 9 27,zq [8] 10 28,zq [8] 11 29,zq [8] 12 30,zq [8] 13 31,zq [13] 14 23] [(_,_),(_,_),(_,_),(_,_),(_,_),(_,_)] rfl ⟨zp rfl (op_loadA _ _ _ _ _ _ _ underlying40 rfl sz40 rfl rfl (zl rfl) rfl rfl),zp rfl (op_call _ _ 33 _ _ rfl call33 rfl (ok_match_validMatch v3 _ hv10) rfl rfl),z8 hg8_2 rfl,zt rfl,zt rfl,zt rfl,zt rfl,z3 false rfl,z2 rfl,zz⟩ ?_
          exact hl227 _ (Option.some.inj h).symm
      ·intro u221 h hl222 hr223
       refine cond_some h (fun hg6_3 h => ?_) (fun hg6_3 h => ?_)
       ·refine zg hn [_,_,_,_,_,(13,.ptr 5 1),(14,vi v3.Len),(15,vb (v3.Len == 0)),(16,vb true),(17,.ptr 5 2),(18,vi v3.Dist),(19,vb (v3.Dist == 0)),(20,vb (v3.Dist == 0)),(12,vb (v3.Dist == 0))] [0,1,2,3,4] [0,1,2,3,4,13] [zq [4] 5 13,zq [5,4] 6 14,zq [6] 7 15,zq [7] 8 16,zq [8,4] 9 17,zq [8,9,4] 10 18,zq [8,10] 11 19,zq [8,11] 12 20,zq [12] 13 12] [(_,_),(_,_),(_,_),(_,_),(_,_),(_,_)] rfl ⟨zp rfl (oF underlying40 rfl sz3),zp rfl (oL underlying3 rfl),z4 rfl rfl,z8 hg6_3 rfl,zr' rfl (oF underlying40 rfl sz3),zr' rfl (oL underlying3 rfl),zr' rfl (oB rfl rfl),z3 true rfl,z2 rfl,zz⟩ ?_
        exact hl222 _ (Option.some.inj h).symm
       ·refine zg hn [_,_,_,_,_,(13,.ptr 5 1),(14,vi v3.Len),(15,vb (v3.Len == 0)),(16,vb false),(17,.v undef),(18,.v undef),(19,.v undef),(20,vb false),(12,vb false)] [0,1,2,3,4] [0,1,2,3,4,13] [zq [4] 5 13,zq [5,4] 6 14,zq [6] 7 15,zq [7] 8 16,zq [8] 9 17,zq [8] 10 18,zq [8] 11 19,zq [8] 12 20,zq [12] 13 12] [(_,_),(_,_),(_,_),(_,_),(_,_),(_,_)] rfl ⟨zp rfl (oF underlying40 rfl sz3),zp rfl (oL underlying3 rfl),z4 rfl rfl,z8 hg6_3 rfl,zt rfl,zt rfl,zt rfl,z3 false rfl,z2 rfl,zz⟩ ?_
        exact hl222 _ (Option.some.inj h).symm
   ·have h := cond_f hb177 h
    refine ht_exit ?_
    refine pt_x_then ?_
    refine pt_x_then ?_
    refine pt_x_in ?_
    refine pt_pick [0] (by kernel_rfl) (es' := [(_,_)]) rfl ?_
    exact hl172 _ (ho174 _ (Option.some.inj h).symm).symm
theorem ok_match_Expand (l : (List T_Tok)) (r : ((List Int) × Int)) (h : Sh.match_Expand l = some r) : FnOK Try.prog 18 [.fl .shr 3 (List.flatten (List.map T_Tok.enc l))] (.tup [.fl (.own 5) 1 (List.map (Value.int .u8) r.1), .v (.int .i64 r.2)]) := by
  unfold Sh.match_Expand at h
  refine fn_ok func18 rfl (zl rfl) rfl rfl fun g0 hn hio => ?_
  refine zgg hn [_,(2,.v (.slice none 0 0)),(3,vi 0)] [0] [0] [zq [] 1 2,zq [] 2 3] [(_,_)] rfl ⟨z2 rfl,z2 rfl,zz⟩ ?_
  refine ht_seq ?_
  refine ht_seq ?_
  obtain ⟨v1, hv1, h⟩ := bind_some h
  refine zg hn [_,(8,.fl .shr 3 (List.flatten (List.map T_Tok.enc l))),(9,vi v1),(4,vi v1)] [0] [0,3] [zq [0] 1 8,zq [1] 2 9,zq [2] 3 4] [(_,_),(_,_)] rfl ⟨z1 rfl,zp rfl (op_call _ _ 22 _ _ rfl call22 rfl (ok_match_Check l _ hv1) rfl rfl),z2 rfl,zz⟩ ?_
  refine pt_then ?_
  refine zgg hn [_,_,(10,vi v1),(11,vb (v1 != 0))] [0,1] [0,1,3] [zq [1] 2 10,zq [2] 3 11] [(_,_),(_,_),(_,_)] rfl ⟨z1 rfl,z4 rfl rfl,zz⟩ ?_
  refine ht_cond _ rfl (fun hb2 => ?_) (fun hb2 => ?_)
  ·have h := cond_t hb2 h
   refine zgg hn [_,_,_,(12,vi v1),(2,.v (.slice none 0 0)),(3,vi v1)] [0,1,2] [4,5] [zq [1] 3 12,zq [] 4 2,zq [3] 5 3] [(_,_),(_,_)] rfl ⟨z1 rfl,z2 rfl,z2 rfl,zz⟩ ?_
   refine ht_ret ?_
   refine pt_sub (fs := [(2, .fl (.own 5) 1 (List.map (Value.int .u8) [])), (3, .v (.int .i64 v1))]) (.sub _ (sub_nil 5 1) rfl (.same _ .nil)) ?_
   refine pt_r_then ?_
   obtain rfl := Option.some.inj h
   exact pt_ret hio rfl (.tmp _ _ (.tmp _ _ .nil)) rfl rfl
  ·have h := cond_f hb2 h
   refine ht_skip ?_
   refine pt_then ?_
   refine zgg hn [_,_,_,(5,.v (.slice none 0 0))] [0,1,2] [0,3] [zq [] 3 5] [(_,_),(_,_)] rfl ⟨z2 rfl,zz⟩ ?_
   refine ht_seq ?_
   refine zgg hn [_,_,(13,.fl .shr 3 (List.flatten (List.map T_Tok.enc l))),(14,vi (l.length : Int)),(15,vi 0)] [0,1] [1,2,3,4] [zq [0] 2 13,zq [2] 3 14,zq [] 4 15] [(_,_),(_,_),(_,_),(_,_)] rfl ⟨z1 rfl,zp rfl (op_len_fl _ _ _ underlying23 rfl (by decide) (flat_len T_Tok.len _)),z1 rfl,zz⟩ ?_
   refine ht_sub (fs := [(5, .fl (.own 5) 1 (List.map (Value.int .u8) [])), (13, .fl .shr 3 (List.flatten (List.map T_Tok.enc l))), (14, .v (.int .i64 (l.length : Int))), (15, .v (.int .i64 0))]) (.sub _ (sub_nil 5 1) rfl (.same _ (.same _ (.same _ .nil)))) ?_
   refine ht_loopS h (fun ((s58, s59) : (List Int) × Int) => [(5, .fl (.own 5) 1 (List.map (Value.int .u8) s58)), (13, .fl .shr 3 (List.flatten (List.map T_Tok.enc l))), (14, .v (.int .i64 (l.length : Int))), (15, .v (.int .i64 s59))]) (fun (s82 : (List Int)) => [(5, .fl (.own 5) 1 (List.map (Value.int .u8) s82))]) ?_ ?_
   ·rintro s82 h
    refine pt_then ?_
    refine zgg hn [_,(44,.fl (.own 5) 1 (List.map (Value.int .u8) s82)),(2,.fl (.own 5) 1 (List.map (Value.int .u8) s82)),(3,vi 0)] [0] [2,3] [⟨[],[0],[1],[(.slot 44)]⟩,⟨[],[1],[2],[(.slot 2)]⟩,zq [] 3 3] [(_,_),(_,_)] rfl ⟨zp rfl (op_move_take _ _ _ _ rfl),zp rfl (op_assign_take _ _ _ _ rfl),z2 rfl,zz⟩ ?_
    refine ht_ret ?_
    obtain rfl := Option.some.inj h
    exact pt_ret hio rfl (.tmp _ _ (.tmp _ _ .nil)) rfl rfl
   ·rintro u83 hl84 hr85 ⟨s58, s59⟩ rr88 h ho86
    refine zgg hn [_,_,_,_,(16,vb (decide (s59 < (l.length : Int))))] [0,1,2,3] [0,1,2,3,4] [zq [3,2] 4 16] [(_,_),(_,_),(_,_),(_,_),(_,_)] rfl ⟨z4 rfl rfl,zz⟩ ?_
    refine ht_seq ?_
    refine ht_cond _ rfl (fun hb89 => ?_) (fun hb89 => ?_)
    ·have h := cond_t hb89 h
     refine ht_skip ?_
     refine pt_then (ht_seq ?_)
     refine ht_block ?_
     refine ht_seq ?_
     obtain ⟨v4, hv4, h⟩ := bind_some h
     obtain ⟨v5, hv5, h⟩ := bind_some h
     refine zg hn [_,_,_,_,_,(17,.eref (.slot 13) (v4 * 3)),(18,.agg [.v (.int .u8 v5.Byte),vi v5.Len,vi v5.Dist]),(7,.box 40 [.v (.int .u8 0),vi 0,vi 0]),(7,.box 40 [.v (.int .u8 v5.Byte),vi v5.Len,vi v5.Dist])] [0,1,2,3,4] [0,1,2,3,8] [zq [1,3] 5 17,zq [5,1] 6 18,zq [] 7 7,⟨[6],[7],[8],[.cell 7 0,.cell 7 1,.cell 7 2]⟩] [(_,_),(_,_),(_,_),(_,_),(_,_)] rfl ⟨zp rfl (op_ix _ _ _ _ _ _ _ _ underlying23 sz40 (by decide) rfl rfl rfl (ix_ok hv4).1 (flat_lt T_Tok.len (ix_ok hv4).2) rfl),zp rfl (op_load_eA _ _ _ _ _ _ _ underlying40 rfl sz40 rfl rfl (flat_get T_Tok.len hv5) rfl (by decide)),zp rfl (op_alloc _ _ zr40),zp rfl (oS sz40 rfl),zz⟩ ?_
     refine pt_then (ht_seq ?_)
     refine ht_joinS h (fun (s91 : (List Int)) => [(13, .fl .shr 3 (List.flatten (List.map T_Tok.enc l))), (14, .v (.int .i64 (l.length : Int))), (15, .v (.int .i64 s59)), (7, .box 40 [.v (.int .u8 v5.Byte), .v (.int .i64 v5.Len), .v (.int .i64 v5.Dist)]), (5, .fl (.own 5) 1 (List.map (Value.int .u8) s91))]) ?_ ?_
     ·rintro s91 h
      refine pt_then ?_
      refine zgg hn [_,_,_,_,_,(27,.ptr 7 1),(28,vi v5.Len),(29,vi 0)] [0,1,2,3,4] [0,1,2,3,4,6,7] [zq [3] 5 27,zq [5,3] 6 28,zq [] 7 29] [(_,_),(_,_),(_,_),(_,_),(_,_),(_,_),(_,_)] rfl ⟨zp rfl (oF underlying40 rfl sz3),zp rfl (oL underlying3 rfl),z1 rfl,zz⟩ ?_
      refine ht_loopS h (fun ((s100, s101) : (List Int) × Int) => [(13, .fl .shr 3 (List.flatten (List.map T_Tok.enc l))), (14, .v (.int .i64 (l.length : Int))), (15, .v (.int .i64 s59)), (7, .box 40 [.v (.int .u8 v5.Byte), .v (.int .i64 v5.Len), .v (.int .i64 v5.Dist)]), (5, .fl (.own 5) 1 (List.map (Value.int .u8) s100)), (28, .v (.int .i64 v5.Len)), (29, .v (.int .i64 s101))]) (fun (s103 : (List Int)) => [(13, .fl .shr 3 (List.flatten (List.map T_Tok.enc l))), (14, .v (.int .i64 (l.length : Int))), (15, .v (.int .i64 s59)), (5, .fl (.own 5) 1 (List.map (Value.int .u8) s103))]) ?_ ?_
      ·rintro s103 h
       refine pt_inb ?_
       refine pt_then ?_
       obtain ⟨v33, hv33, h⟩ := bind_some h
       refine zg hn [_,_,_,_,(43,vi v33),(15,vi v33)] [0,1,2,3] [0,1,3,5] [zq [2] 4 43,⟨[4],[2],[5],[(.slot 15)]⟩] [(_,_),(_,_),(_,_),(_,_)] rfl ⟨zp rfl (oB rfl (ibind (f := Value.int .i64) (Option.some.inj hv33))),zp rfl (LOp.drop [_] (oM rfl)),zz⟩ ?_
       refine pt_pick [2, 0, 1, 3] (by kernel_rfl) (es' := [(_,_),(_,_),(_,_),(_,_)]) rfl ?_
       exact pt_next _ (Option.some.inj h).symm rfl
      ·rintro u104 hl105 hr106 ⟨s100, s101⟩ rr109 h ho107
       refine zgg hn [_,_,_,_,_,_,_,(30,vb (decide (s101 < v5.Len)))] [0,1,2,3,4,5,6] [0,1,2,3,4,5,6,7] [zq [6,5] 7 30] [(_,_),(_,_),(_,_),(_,_),(_,_),(_,_),(_,_),(_,_)] rfl ⟨z4 rfl rfl,zz⟩ ?_
       refine ht_seq ?_
       refine ht_cond _ rfl (fun hb110 => ?_) (fun hb110 => ?_)
       ·have h := cond_t hb110 h
        refine ht_skip ?_
        refine pt_then (ht_seq ?_)
        refine ht_block ?_
        obtain ⟨v14, hv14, h⟩ := bind_some h
        obtain ⟨v15, hv15, h⟩ := bind_some h
        obtain ⟨v16, hv16, h⟩ := bind_some h
        obtain ⟨v17, hv17, h⟩ := bind_some h
        refine zg hn (_::_::_::_::_::_::_::_::(31,.same (.slot 5))::(32,.same (.slot 5))::(33,.same (.slot 5))::(34,vi (s100.length : Int))::(35,.ptr 7 2)::(36,vi v5.Dist)::(37,vi v14)::(38,.eref (.slot 5) (v15 * 1))::(39,.v (.int .u8 v16))::(40,.fl (.own 5) 1 (List.map (Value.int .u8) [v16]))::(41,.fl (.own 5) 1 (List.map (Value.int .u8) v17))::(5,.any)::(5,.fl (.own 5) 1 (List.map (Value.int .u8) v17))::[]) [0,1,2,3,4,5,6,7] [0,1,2,3,5,6,20] [zq [4] 8 31,zq [4] 9 32,zq [4] 10 33,zq [10,4] 11 34,zq [3] 12 35,zq [12,3] 13 36,zq [11,13] 14 37,zq [9,4,14] 15 38,zq [15,4] 16 39,zq [16] 17 40,⟨[8,17],[4],[19,18],[(.slot 41)]⟩,⟨[],[19,8,9,10,15,18],[20],[(.slot 5)]⟩] [(_,_),(_,_),(_,_),(_,_),(_,_),(_,_),(_,_)] rfl ⟨z1 rfl,z1 rfl,z1 rfl,zp rfl (op_len_fl _ _ _ underlying22 rfl (by decide) (map_len _)),zp rfl (oF underlying40 rfl sz3),zp rfl (oL underlying3 rfl),zp rfl (oB rfl (ibind (f := Value.int .i64) (Option.some.inj hv14))),zp rfl (op_ix _ _ _ _ _ _ _ _ underlying22 sz5 (by decide) rfl rfl rfl (ix_ok hv15).1 (map_lt (ix_ok hv15).2) rfl),zp rfl (op_load_e _ _ _ _ _ _ underlying5 rfl rfl rfl (map_get hv16)),zp rfl (op_buildSlice _ _ 1 (.int .u8 0) (List.map (Value.int .u8) [v16]) [(0, .int .u8 v16)] underlying22 sz5 zr5 (fun _ V w o a hv hes => by have e0 := rd_v hv hes (x := .tmp 39) rfl; simp only [List.map_toArray, List.map_cons, List.map_nil, e0]; try rfl) (litfill (by simp [Instr.fill, Value.cells]; rfl) (by simp [List.range, List.range.loop] <;> rfl)) (by simp [Value.oneCell']) rfl (by decide) (by decide) (by decide)),zp rfl (op_app _ _ _ _ _ el22 rfl rfl (map_len _) (map_len _) hv17 ((List.map_append).symm.trans (congrArg (List.map _) (app_eq hv17)))),zp rfl (LOp.drop [_] (LOp.drop [_] (LOp.drop [_] (LOp.drop [_] (LOp.drop [_] (op_assign_take _ _ _ _ rfl)))))),zz⟩ ?_
        refine pt_inb ?_
        refine pt_then ?_
        obtain ⟨v18, hv18, h⟩ := bind_some h
        refine zg hn [_,_,_,_,_,_,_,(42,vi v18),(29,vi v18)] [0,1,2,3,4,5,6] [0,1,2,3,4,6,8] [zq [5] 7 42,⟨[7],[5],[8],[(.slot 29)]⟩] [(_,_),(_,_),(_,_),(_,_),(_,_),(_,_),(_,_)] rfl ⟨zp rfl (oB rfl (ibind (f := Value.int .i64) (Option.some.inj hv18))),zp rfl (LOp.drop [_] (oM rfl)),zz⟩ ?_
        refine pt_pick [0, 1, 2, 3, 5, 4, 6] (by kernel_rfl) (es' := [(_,_),(_,_),(_,_),(_,_),(_,_),(_,_),(_,_)]) rfl ?_
        exact pt_next _ (Option.some.inj h).symm rfl
       ·have h := cond_f hb110 h
        refine ht_exit ?_
        refine pt_x_then ?_
        refine pt_x_then ?_
        refine pt_x_in ?_
        refine pt_pick [0, 1, 2, 4] (by kernel_rfl) (es' := [(_,_),(_,_),(_,_),(_,_)]) rfl ?_
        exact hl105 _ (ho107 _ (Option.some.inj h).symm).symm
     ·intro u92 h hl93 hr94
      refine zgg hn [_,_,_,_,_,(19,.ptr 7 1),(20,vi v5.Len),(21,vb (v5.Len == 0))] [0,1,2,3,4] [0,1,2,3,4,7] [zq [4] 5 19,zq [5,4] 6 20,zq [6] 7 21] [(_,_),(_,_),(_,_),(_,_),(_,_),(_,_)] rfl ⟨zp rfl (oF underlying40 rfl sz3),zp rfl (oL underlying3 rfl),z4 rfl rfl,zz⟩ ?_
      refine ht_cond _ rfl (fun hb95 => ?_) (fun hb95 => ?_)
      ·have h := cond_t hb95 h
       obtain ⟨v7, hv7, h⟩ := bind_some h
       refine zg hn [_,_,_,_,_,_,(22,.fl (.own 5) 1 (List.map (Value.int .u8) s58)),(23,.ptr 7 0),(24,.v (.int .u8 v5.Byte)),(25,.fl (.own 5) 1 (List.map (Value.int .u8) [v5.Byte])),(26,.fl (.own 5) 1 (List.map (Value.int .u8) v7)),(22,.any),(5,.fl (.own 5) 1 (List.map (Value.int .u8) v7))] [0,1,2,3,4,5] [1,2,3,4,12] [⟨[],[0],[6],[(.slot 22)]⟩,zq [4] 7 23,zq [7,4] 8 24,zq [8] 9 25,⟨[9],[6],[11,10],[(.slot 26)]⟩,⟨[],[10],[12],[(.slot 5)]⟩] [(_,_),(_,_),(_,_),(_,_),(_,_)] rfl ⟨zp rfl (op_move_take _ _ _ _ rfl),zp rfl (oF underlying40 rfl sz5),zp rfl (oL underlying5 rfl),zp rfl (op_buildSlice _ _ 1 (.int .u8 0) (List.map (Value.int .u8) [v5.Byte]) [(0, .int .u8 v5.Byte)] underlying22 sz5 zr5 (fun _ V w o a hv hes => by have e0 := rd_v hv hes (x := .tmp 24) rfl; simp only [List.map_toArray, List.map_cons, List.map_nil, e0]; try rfl) (litfill (by simp [Instr.fill, Value.cells]; rfl) (by simp [List.range, List.range.loop] <;> rfl)) (by simp [Value.oneCell']) rfl (by decide) (by decide) (by decide)),zp rfl (op_app _ _ _ _ _ el22 rfl rfl (map_len _) (map_len _) hv7 ((List.map_append).symm.trans (congrArg (List.map _) (app_eq hv7)))),zp rfl (op_assign_take _ _ _ _ rfl),zz⟩ ?_
       exact hl93 _ (Option.some.inj h).symm
      ·have h := cond_f hb95 h
       refine ht_skip ?_
       refine pt_pick [1, 2, 3, 4, 0] (by kernel_rfl) (es' := [(_,_),(_,_),(_,_),(_,_),(_,_)]) rfl ?_
       exact hl93 _ (Option.some.inj h).symm
    ·have h := cond_f hb89 h
     refine ht_exit ?_
     refine pt_x_then ?_
     refine pt_x_then ?_
     refine pt_x_in ?_
     refine pt_pick [0] (by kernel_rfl) (es' := [(_,_)]) rfl ?_
     exact hl84 _ (ho86 _ (Option.some.inj h).symm).symm
theorem ok_match_newIndex_sh (b : (List Int)) (from_ : Int) (r : (Option T_match_index)) (h : Sh.match_newIndex_sh b from_ = some r) : FnOK Try.prog 28 [.fl .shr 1 (List.map (Value.int .u8) b), .v (.int .i64 from_)] (.obox (Option.isSome r) 56 [.fl .shr 1 (List.map (Value.int .u8) (((Option.getD r (default : T_match_index))).b)), .hid (mapT Try.prog 60 3 (((Option.getD r (default : T_match_index))).last)), .fl (.own 3) 1 (List.map (Value.int .i64) (((Option.getD r (default : T_match_index))).back)), .v (.int .i64 (((Option.getD r (default : T_match_index))).from_))]) := by
  unfold Sh.match_newIndex_sh at h
  refine fn_ok func28 rfl (zl rfl) rfl rfl fun g0 hn hio => ?_
  refine zgg hn [_,_,(4,.v (.pointer none))] [0,1] [0,1] [zq [] 2 4] [(_,_),(_,_)] rfl ⟨z2 rfl,zz⟩ ?_
  refine zgg hn [_,_,(5,.fl .shr 1 (List.map (Value.int .u8) b)),(6,.hid (mapT Try.prog 60 3 [])),(7,vi from_),(8,.agg [.fl .shr 1 (List.map (Value.int .u8) b),.hid (mapT Try.prog 60 3 []),.v (.slice none 0 0),vi from_]),(9,.box 56 [.fl .shr 1 (List.map (Value.int .u8) b),.hid (mapT Try.prog 60 3 []),.v (.slice none 0 0),vi from_]),(4,.box 56 [.fl .shr 1 (List.map (Value.int .u8) b),.hid (mapT Try.prog 60 3 []),.v (.slice none 0 0),vi from_])] [0,1] [7] [zq [0] 2 5,zq [] 3 6,zq [1] 4 7,⟨[2,4],[3],[5],[(.slot 8)]⟩,⟨[],[5],[6],[(.slot 9)]⟩,⟨[],[6],[7],[(.slot 4)]⟩] [(_,_)] rfl ⟨z1 rfl,zp rfl (op_makeMap _ _),z1 rfl,zp rfl (op_build _ _ _ _ [1, 1, 1, 1] _ _ underlying56 zr56 (fs56 _ underlying56) (.copy _ (.take _ _ (.copy _ Src.nil))) rfl rfl rfl),zp rfl (op_box_take _ _ _ _ _ rfl rfl rfl),zp rfl (op_assign_take _ _ _ _ rfl),zz⟩ ?_
  refine ht_ret ?_
  refine pt_sub (fs := [(4, .obox true 56 [.fl .shr 1 (List.map (Value.int .u8) b), .hid (mapT Try.prog 60 3 []), .fl (.own 3) 1 (List.map (Value.int .i64) []), .v (.int .i64 from_)])]) (.sub _ (sub_ob_box 56 (subs_cons (sub_refl _) (subs_cons (sub_refl _) (subs_cons (sub_nil 3 1) (subs_cons (sub_refl _) (subs_nil)))))) rfl .nil) ?_
  obtain rfl := Option.some.inj h
  exact pt_ret hio rfl (.tmp _ _ .nil) rfl rfl
theorem ok_match_index_startAt (x : T_match_index) (at_ : Int) (r : ((List Int) × Bool × T_match_index)) (h : Sh.match_index_startAt x at_ = some r) : FnP Try.prog 34 [.box 56 [.fl .shr 1 (List.map (Value.int .u8) x.b), .hid (mapT Try.prog 60 3 x.last), .fl (.own 3) 1 (List.map (Value.int .i64) x.back), .v (.int .i64 x.from_)], .v (.int .i64 at_)] [.box 56 [.fl .shr 1 (List.map (Value.int .u8) r.2.2.b), .hid (mapT Try.prog 60 3 r.2.2.last), .fl (.own 3) 1 (List.map (Value.int .i64) r.2.2.back), .v (.int .i64 r.2.2.from_)]] (.tup [.v (.agg (List.map (Value.int .u8) r.1).toArray), .v (.bool r.2.1)]) := by
  unfold Sh.match_index_startAt at h
  refine fn_okP func34 rfl (zl rfl) rfl (zl rfl) fun args0 hargs0 g0 hn hio => ?_
  refine zgg hn [_,_,_,(4,.arr 60 (List.map (Value.int .u8) ((List.replicate 3 (0 : Int))))),(5,vb false)] [0,1,2] [0,1,2,3] [zq [] 3 4,zq [] 4 5] [(_,_),(_,_),(_,_),(_,_)] rfl ⟨zp rfl (op_alloc_arr _ za60),z2 rfl,zz⟩ ?_
  refine ht_seq ?_
  refine ht_seq ?_
  obtain ⟨v1, hv1, h⟩ := bind_some h
  refine zg hn [_,_,_,_,(6,vi at_),(7,vi v1),(8,.ptr 0 0),(9,.ptr 0 0),(10,.ptr 0 0),(11,.fl .shr 1 (List.map (Value.int .u8) x.b)),(12,vi (x.b.length : Int)),(13,vb (decide ((x.b.length : Int) < v1)))] [0,1,2,3] [0,1,2,3,11] [zq [1] 4 6,zq [4] 5 7,zq [0] 6 8,zq [6,0] 7 9,zq [7,0] 8 10,zq [8,0] 9 11,zq [9] 10 12,zq [5,10] 11 13] [(_,_),(_,_),(_,_),(_,_),(_,_)] rfl ⟨z1 rfl,zp rfl (oB rfl (ibind (f := Value.int .i64) (Option.some.inj hv1))),z1 rfl,zp rfl (op_nilCheck _ _ _ 0 0 rfl (by decide)),zp rfl (oF underlying56 rfl sz22),zp rfl (oL underlying22 rfl),zp rfl (op_len_fl _ _ _ underlying22 rfl (by decide) (map_len _)),z4 rfl rfl,zz⟩ ?_
  refine pt_then ?_
  refine ht_cond _ rfl (fun hb2 => ?_) (fun hb2 => ?_)
  ·have h := cond_t hb2 h
   refine ht_seq ?_
   obtain ⟨v3, hv3, h⟩ := bind_some h
   obtain ⟨v4, hv4, h⟩ := bind_some h
   refine zg hn [_,_,_,_,_,(14,.v (.agg (List.map (Value.int .u8) (([(0 : Int),(0 : Int),(0 : Int)] : List Int))).toArray)),(4,.arr 60 (List.map (Value.int .u8) (([(0 : Int),(0 : Int),(0 : Int)] : List Int)))),(5,vb false)] [0,1,2,3,4] [0,2,6,7] [zq [] 5 14,⟨[5],[3],[6],[]⟩,zq [] 7 5] [(_,_),(_,_),(_,_),(_,_)] rfl ⟨zp rfl (op_build_arr _ _ (.agg #[.int .u8 0, .int .u8 0, .int .u8 0]) (List.map (Value.int .u8) (([(0 : Int), (0 : Int), (0 : Int)] : List Int))) [] underlying60 sz5 zr60 (fun _ V w o a hv hes => by simp only [List.map_toArray, List.map_cons, List.map_nil]; try rfl) (litfill (by simp [Instr.fill, Value.cells]; rfl) (by simp))),zp rfl (op_storeA_arr _ _ _ _ (sz60.trans (congrArg some (ln_len hv4))) rfl rfl (ln_ones (fun _ => rfl) _) ((ln_len (f := Value.int .u8) hv3).symm.trans (ln_len (f := Value.int .u8) hv4))),z2 rfl,zz⟩ ?_
   refine pt_then (ht_ret ?_)
   obtain ⟨v5, hv5, h⟩ := bind_some h
   refine pt_pick [2, 3, 0, 1] (by kernel_rfl) (es' := [(_,_),(_,_),(_,_),(_,_)]) rfl ?_
   refine pt_r_then ?_
   obtain rfl := Option.some.inj h
   exact pt_retP (es := [(4, .arr 60 (List.map (Value.int .u8) (([(0 : Int), (0 : Int), (0 : Int)] : List Int)))), (5, .v (.bool false))]) (posts := [.box 56 [.fl .shr 1 (List.map (Value.int .u8) x.b), .hid (mapT Try.prog 60 3 x.last), .fl (.own 3) 1 (List.map (Value.int .i64) x.back), .v (.int .i64 x.from_)]]) hio rfl rfl (.cellR _ _ _ _ underlying60 rfl (sz60.trans (congrArg some (ln_len hv5))) (.tmp _ _ .nil)) rfl rfl hargs0 rfl
  ·have h := cond_f hb2 h
   refine ht_skip ?_
   refine pt_then (ht_seq ?_)
   obtain ⟨v6, hv6, h⟩ := bind_some h
   obtain ⟨v7, hv7, h⟩ := bind_some h
   obtain ⟨v8, hv8, h⟩ := bind_some h
   obtain ⟨v9, hv9, h⟩ := bind_some h
   obtain ⟨v10, hv10, h⟩ := bind_some h
   refine zg hn (_::_::_::_::_::(15,.ptr 0 0)::(16,.ptr 0 0)::(17,.ptr 0 0)::(18,.fl .shr 1 (List.map (Value.int .u8) x.b))::(19,vi at_)::(20,vi at_)::(21,vi v6)::(22,.fl .shr 1 (List.map (Value.int .u8) v7))::(23,.eref (.slot 22) 0)::(24,.v (.agg (List.map (Value.int .u8) v8).toArray))::(4,.arr 60 (List.map (Value.int .u8) v8))::(5,vb true)::[]) [0,1,2,3,4] [0,2,15,16] [zq [0] 5 15,zq [5,0] 6 16,zq [6,0] 7 17,zq [7,0] 8 18,zq [1] 9 19,zq [1] 10 20,zq [10] 11 21,zq [8,9,11] 12 22,zq [12] 13 23,zq [13,12] 14 24,⟨[14],[3],[15],[]⟩,zq [] 16 5] [(_,_),(_,_),(_,_),(_,_)] rfl ⟨z1 rfl,zp rfl (op_nilCheck _ _ _ 0 0 rfl (by decide)),zp rfl (oF underlying56 rfl sz22),zp rfl (oL underlying22 rfl),z1 rfl,z1 rfl,zp rfl (oB rfl (ibind (f := Value.int .i64) (Option.some.inj hv6))),zp rfl (op_sl _ _ _ at_ v6 _ underlying22 sz5 rfl rfl ⟨_, rfl⟩ ⟨_, rfl⟩ hv7),zp rfl (op_arrayAt _ _ 22 3 underlying60 rfl (arr_map (f := Value.int .u8) hv8).2.2 (by decide) rfl),zp rfl (op_load_eV _ _ _ (.slot 22) 0 3 _ underlying60 rfl sz60 rfl rfl (arr_map (f := Value.int .u8) hv8).1 (arr_map (f := Value.int .u8) hv8).2.1 (by decide)),zp rfl (op_storeA_arr _ _ _ _ (sz60.trans (congrArg some (ln_len hv10))) rfl rfl (ln_ones (fun _ => rfl) _) ((ln_len (f := Value.int .u8) hv9).symm.trans (ln_len (f := Value.int .u8) hv10))),z2 rfl,zz⟩ ?_
   refine pt_then (ht_ret ?_)
   obtain ⟨v11, hv11, h⟩ := bind_some h
   refine pt_pick [2, 3, 0, 1] (by kernel_rfl) (es' := [(_,_),(_,_),(_,_),(_,_)]) rfl ?_
   obtain rfl := Option.some.inj h
   exact pt_retP (es := [(4, .arr 60 (List.map (Value.int .u8) v8)), (5, .v (.bool true))]) (posts := [.box 56 [.fl .shr 1 (List.map (Value.int .u8) x.b), .hid (mapT Try.prog 60 3 x.last), .fl (.own 3) 1 (List.map (Value.int .i64) x.back), .v (.int .i64 x.from_)]]) hio rfl rfl (.cellR _ _ _ _ underlying60 rfl (sz60.trans (congrArg some (ln_len hv11))) (.tmp _ _ .nil)) rfl rfl hargs0 rfl
theorem ok_match_index_common (x : T_match_index) (p : Int) (at_ : Int) (r : (Int × T_match_index)) (h : Sh.match_index_common x p at_ = some r) : FnP Try.prog 35 [.box 56 [.fl .shr 1 (List.map (Value.int .u8) x.b), .hid (mapT Try.prog 60 3 x.last), .fl (.own 3) 1 (List.map (Value.int .i64) x.back), .v (.int .i64 x.from_)], .v (.int .i64 p), .v (.int .i64 at_)] [.box 56 [.fl .shr 1 (List.map (Value.int .u8) r.2.b), .hid (mapT Try.prog 60 3 r.2.last), .fl (.own 3) 1 (List.map (Value.int .i64) r.2.back), .v (.int .i64 r.2.from_)]] (.v (.int .i64 r.1)) := by
  unfold Sh.match_index_common at h
  refine fn_okP func35 rfl (zl rfl) rfl (zl rfl) fun args0 hargs0 g0 hn hio => ?_
  refine zgg hn [_,_,_,_,(6,vi 0)] [0,1,2,3] [0,1,2,3] [zq [] 4 6] [(_,_),(_,_),(_,_),(_,_)] rfl ⟨z2 rfl,zz⟩ ?_
  refine ht_seq ?_
  obtain ⟨v1, hv1, h⟩ := bind_some h
  obtain ⟨v2, hv2, h⟩ := bind_some h
  refine zg hn [_,_,_,_,(9,.ptr 0 0),(10,.ptr 0 0),(11,.ptr 0 0),(12,.fl .shr 1 (List.map (Value.int .u8) x.b)),(13,vi (x.b.length : Int)),(14,vi at_),(15,vi v1),(16,vi v2),(7,vi v2)] [0,1,2,3] [0,1,2,3,12] [zq [0] 4 9,zq [4,0] 5 10,zq [5,0] 6 11,zq [6,0] 7 12,zq [7] 8 13,zq [2] 9 14,zq [8,9] 10 15,zq [10] 11 16,zq [11] 12 7] [(_,_),(_,_),(_,_),(_,_),(_,_)] rfl ⟨z1 rfl,zp rfl (op_nilCheck _ _ _ 0 0 rfl (by decide)),zp rfl (oF underlying56 rfl sz22),zp rfl (oL underlying22 rfl),zp rfl (op_len_fl _ _ _ underlying22 rfl (by decide) (map_len _)),z1 rfl,zp rfl (oB rfl (ibind (f := Value.int .i64) (Option.some.inj hv1))),zp rfl ((Option.some.inj hv2) ▸ op_min _ _ _ _ rfl rfl),z2 rfl,zz⟩ ?_
  refine pt_then ?_
  refine zgg hn [_,_,_,_,_,(8,vi 3)] [0,1,2,3,4] [0,1,2,3,4,5] [zq [] 5 8] [(_,_),(_,_),(_,_),(_,_),(_,_),(_,_)] rfl ⟨z2 rfl,zz⟩ ?_
  refine ht_seq ?_
  refine ht_loopS h (fun (s21 : Int) => [(0, .box 56 [.fl .shr 1 (List.map (Value.int .u8) x.b), .hid (mapT Try.prog 60 3 x.last), .fl (.own 3) 1 (List.map (Value.int .i64) x.back), .v (.int .i64 x.from_)]), (1, .v (.int .i64 p)), (2, .v (.int .i64 at_)), (0, .v (List.getD args0 0 undef)), (7, .v (.int .i64 v2)), (8, .v (.int .i64 s21))]) (fun (s27 : Int) => [(0, .box 56 [.fl .shr 1 (List.map (Value.int .u8) x.b), .hid (mapT Try.prog 60 3 x.last), .fl (.own 3) 1 (List.map (Value.int .i64) x.back), .v (.int .i64 x.from_)]), (0, .v (List.getD args0 0 undef)), (8, .v (.int .i64 s27))]) ?_ ?_
  ·rintro s27 h
   refine pt_then ?_
   refine zgg hn [_,_,_,(43,vi s27),(6,vi s27)] [0,1,2] [0,1,4] [zq [2] 3 43,zq [3] 4 6] [(_,_),(_,_),(_,_)] rfl ⟨z1 rfl,z2 rfl,zz⟩ ?_
   refine ht_ret ?_
   refine pt_pick [2, 0, 1] (by kernel_rfl) (es' := [(_,_),(_,_),(_,_)]) rfl ?_
   obtain rfl := Option.some.inj h
   exact pt_retP (es := [(6, .v (.int .i64 s27))]) (posts := [.box 56 [.fl .shr 1 (List.map (Value.int .u8) x.b), .hid (mapT Try.prog 60 3 x.last), .fl (.own 3) 1 (List.map (Value.int .i64) x.back), .v (.int .i64 x.from_)]]) hio rfl rfl (.tmp _ _ .nil) rfl rfl hargs0 rfl
  ·rintro u28 hl29 hr30 s21 rr33 h ho31
   refine ht_seq ?_
   refine ht_seq ?_
   refine ht_joinS h (fun (s34 : Bool) => [(0, .box 56 [.fl .shr 1 (List.map (Value.int .u8) x.b), .hid (mapT Try.prog 60 3 x.last), .fl (.own 3) 1 (List.map (Value.int .i64) x.back), .v (.int .i64 x.from_)]), (1, .v (.int .i64 p)), (2, .v (.int .i64 at_)), (0, .v (List.getD args0 0 undef)), (7, .v (.int .i64 v2)), (8, .v (.int .i64 s21)), (40, .v (.bool s34))]) ?_ ?_
   ·rintro s34 h
    refine pt_then ?_
    refine ht_cond _ rfl (fun hb38 => ?_) (fun hb38 => ?_)
    ·have h := cond_t hb38 h
     refine ht_skip ?_
     refine pt_then ?_
     refine ht_block ?_
     obtain ⟨v14, hv14, h⟩ := bind_some h
     refine zg hn [_,_,_,_,_,_,_,(41,vi s21),(42,vi v14),(8,vi v14)] [0,1,2,3,4,5,6] [0,1,2,3,4,9] [zq [5] 7 41,zq [7] 8 42,⟨[8],[5],[9],[(.slot 8)]⟩] [(_,_),(_,_),(_,_),(_,_),(_,_),(_,_)] rfl ⟨z1 rfl,zp rfl (oB rfl (ibind (f := Value.int .i64) (Option.some.inj hv14))),zp rfl (LOp.drop [_] (op_assign _ _ _ _ rfl rfl)),zz⟩ ?_
     refine pt_inb ?_
     exact pt_next _ (Option.some.inj h).symm rfl
    ·have h := cond_f hb38 h
     refine ht_exit ?_
     refine pt_x_then ?_
     refine pt_x_then ?_
     refine pt_x_in ?_
     refine pt_pick [0, 3, 5] (by kernel_rfl) (es' := [(_,_),(_,_),(_,_)]) rfl ?_
     exact hl29 _ (ho31 _ (Option.some.inj h).symm).symm
   ·intro u35 h hl36 hr37
    refine cond_some h (fun hg3_3 h => ?_) (fun hg3_3 h => ?_)
    ·obtain ⟨v3, hv3, h⟩ := bind_some h
     obtain ⟨v4, hv4, h⟩ := bind_some h
     obtain ⟨v5, hv5, h⟩ := bind_some h
     obtain ⟨v6, hv6, h⟩ := bind_some h
     obtain ⟨v7, hv7, h⟩ := bind_some h
     obtain ⟨v8, hv8, h⟩ := bind_some h
     refine ht_anyR (by kernel_rfl) hn (El := (_ :: _ :: _ :: _ :: _ :: _ :: (17, .v (.int .i64 s21)) :: (18, .v (.int .i64 v2)) :: (19, .v (.bool ((decide (s21 < v2))))) :: (20, .v (.bool true)) :: (21, .same (.slot 0)) :: (22, .ptr 0 0) :: (23, .ptr 0 0) :: (24, .fl .shr 1 (List.map (Value.int .u8) x.b)) :: (25, .v (.int .i64 p)) :: (26, .v (.int .i64 s21)) :: (27, .v (.int .i64 v3)) :: (28, .eref (.slot 24) (v4 * 1)) :: (29, .v (.int .u8 v5)) :: (30, .same (.slot 0)) :: (31, .ptr 0 0) :: (32, .ptr 0 0) :: (33, .fl .shr 1 (List.map (Value.int .u8) x.b)) :: (34, .v (.int .i64 at_)) :: (35, .v (.int .i64 s21)) :: (36, .v (.int .i64 v6)) :: (37, .eref (.slot 33) (v7 * 1)) :: (38, .v (.int .u8 v8)) :: (39, .v (.bool (v5 == v8))) :: (40, .v (.bool (v5 == v8))) :: [])) (init := [0, 1, 2, 3, 4, 5]) (fin := [0, 1, 2, 3, 4, 5, 29]) (sps := (zq [5] 6 17 :: zq [4] 7 18 :: zq [6,7] 8 19 :: zq [8] 9 20 :: zq [9] 10 21 :: zq [9,10,0] 11 22 :: zq [9,11,0] 12 23 :: zq [9,12,0] 13 24 :: zq [9,1] 14 25 :: zq [9,5] 15 26 :: zq [9,14,15] 16 27 :: zq [9,13,16] 17 28 :: zq [9,17,13] 18 29 :: zq [9] 19 30 :: zq [9,19,0] 20 31 :: zq [9,20,0] 21 32 :: zq [9,21,0] 22 33 :: zq [9,2] 23 34 :: zq [9,5] 24 35 :: zq [9,23,24] 25 36 :: zq [9,22,25] 26 37 :: zq [9,26,22] 27 38 :: zq [9,18,27] 28 39 :: zq [9,28] 29 40 :: [])) (es' := [(_,_),(_,_),(_,_),(_,_),(_,_),(_,_),(40, .v (.bool (v5 == v8)))]) (by kernel_rfl) rfl rfl ⟨z1 rfl,z1 rfl,z4 rfl rfl,z8 hg3_3 rfl,zr' rfl (op_move_name _ _ _ rfl),zr' rfl (op_nilCheck_name _ _ _ 0 rfl rfl (by decide)),zr' rfl (oF underlying56 rfl sz22),zr' rfl (oL underlying22 rfl),zr' rfl (oM rfl),zr' rfl (oM rfl),zr' rfl (oB rfl (ibind (f := Value.int .i64) (Option.some.inj hv3))),zr' rfl (op_ix _ _ _ _ _ _ _ _ underlying22 sz5 (by decide) rfl rfl rfl (ix_ok hv4).1 (map_lt (ix_ok hv4).2) rfl),zr' rfl (op_load_e _ _ _ _ _ _ underlying5 rfl rfl rfl (map_get hv5)),zr' rfl (op_move_name _ _ _ rfl),zr' rfl (op_nilCheck_name _ _ _ 0 rfl rfl (by decide)),zr' rfl (oF underlying56 rfl sz22),zr' rfl (oL underlying22 rfl),zr' rfl (oM rfl),zr' rfl (oM rfl),zr' rfl (oB rfl (ibind (f := Value.int .i64) (Option.some.inj hv6))),zr' rfl (op_ix _ _ _ _ _ _ _ _ underlying22 sz5 (by decide) rfl rfl rfl (ix_ok hv7).1 (map_lt (ix_ok hv7).2) rfl),zr' rfl (op_load_e _ _ _ _ _ _ underlying5 rfl rfl rfl (map_get hv8)),zr' rfl (oB rfl rfl),z3 true rfl,zz⟩ ?_
     exact hl36 _ (Option.some.inj h).symm
    ·refine ht_anyR (by kernel_rfl) hn (El := (_ :: _ :: _ :: _ :: _ :: _ :: (17, .v (.int .i64 s21)) :: (18, .v (.int .i64 v2)) :: (19, .v (.bool ((decide (s21 < v2))))) :: (20, .v (.bool false)) :: (21, .v undef) :: (22, .v undef) :: (23, .v undef) :: (24, .v undef) :: (25, .v undef) :: (26, .v undef) :: (27, .v undef) :: (28, .v undef) :: (29, .v undef) :: (30, .v undef) :: (31, .v undef) :: (32, .v undef) :: (33, .v undef) :: (34, .v undef) :: (35, .v undef) :: (36, .v undef) :: (37, .v undef) :: (38, .v undef) :: (39, .v undef) :: (40, .v (.bool false)) :: [])) (init := [0, 1, 2, 3, 4, 5]) (fin := [0, 1, 2, 3, 4, 5, 29]) (sps := (zq [5] 6 17 :: zq [4] 7 18 :: zq [6,7] 8 19 :: zq [8] 9 20 :: zq [9] 10 21 :: zq [9] 11 22 :: zq [9] 12 23 :: zq [9] 13 24 :: zq [9] 14 25 :: zq [9] 15 26 :: zq [9] 16 27 :: zq [9] 17 28 :: zq [9] 18 29 :: zq [9] 19 30 :: zq [9] 20 31 :: zq [9] 21 32 :: zq [9] 22 33 :: zq [9] 23 34 :: zq [9] 24 35 :: zq [9] 25 36 :: zq [9] 26 37 :: zq [9] 27 38 :: zq [9] 28 39 :: zq [9] 29 40 :: [])) (es' := [(_,_),(_,_),(_,_),(_,_),(_,_),(_,_),(40, .v (.bool false))]) (by kernel_rfl) rfl rfl ⟨z1 rfl,z1 rfl,z4 rfl rfl,z8 hg3_3 rfl,zt rfl,zt rfl,zt rfl,zt rfl,zt rfl,zt rfl,zt rfl,zt rfl,zt rfl,zt rfl,zt rfl,zt rfl,zt rfl,zt rfl,zt rfl,zt rfl,zt rfl,zt rfl,zt rfl,z3 false rfl,zz⟩ ?_
     exact hl36 _ (Option.some.inj h).symm
theorem ok_match_index_best (x : T_match_index) (at_ : Int) (r : (Int × Int × T_match_index)) (h : Sh.match_index_best x at_ = some r) : FnP Try.prog 29 [.box 56 [.fl .shr 1 (List.map (Value.int .u8) x.b), .hid (mapT Try.prog 60 3 x.last), .fl (.own 3) 1 (List.map (Value.int .i64) x.back), .v (.int .i64 x.from_)], .v (.int .i64 at_)] [.box 56 [.fl .shr 1 (List.map (Value.int .u8) r.2.2.b), .hid (mapT Try.prog 60 3 r.2.2.last), .fl (.own 3) 1 (List.map (Value.int .i64) r.2.2.back), .v (.int .i64 r.2.2.from_)]] (.tup [.v (.int .i64 r.1), .v (.int .i64 r.2.1)]) := by
  unfold Sh.match_index_best at h
  refine fn_okP func29 rfl (zl rfl) rfl (zl rfl) fun args0 hargs0 g0 hn hio => ?_
  refine zgg hn [_,_,_,(4,vi 0),(5,vi 0)] [0,1,2] [0,1,2,3,4] [zq [] 3 4,zq [] 4 5] [(_,_),(_,_),(_,_),(_,_),(_,_)] rfl ⟨z2 rfl,z2 rfl,zz⟩ ?_
  refine ht_seq ?_
  obtain ⟨v1, hv1, h⟩ := bind_some h
  obtain ⟨v2, hv2, h⟩ := bind_some h
  obtain ⟨v3, hv3, h⟩ := bind_some h
  refine zg hn (_::_::_::_::_::(11,.ptr 0 0)::(12,vi at_)::(13,.tup [.v (.agg (List.map (Value.int .u8) v1.1).toArray),vb v1.2.1])::(0,.box 56 [.fl .shr 1 (List.map (Value.int .u8) v1.2.2.b),.hid (mapT Try.prog 60 3 v1.2.2.last),.fl (.own 3) 1 (List.map (Value.int .i64) v1.2.2.back),vi v1.2.2.from_])::(10,.tup [.v (.agg (List.map (Value.int .u8) v1.1).toArray),vb v1.2.1])::(14,.v (.agg (List.map (Value.int .u8) v1.1).toArray))::(15,vb v1.2.1)::(6,.arr 60 (List.map (Value.int .u8) ((List.replicate 3 (0 : Int)))))::(6,.arr 60 (List.map (Value.int .u8) v1.1))::(7,vb v1.2.1)::[]) [0,1,2,3,4] [8,1,2,3,4,13,14] [zq [0] 5 11,zq [1] 6 12,⟨[5,6],[0],[8,7],[(.slot 13),(.cell 0 0),(.cell 0 1),(.cell 0 2),(.cell 0 3)]⟩,⟨[],[7],[9],[(.slot 10)]⟩,zq [9] 10 14,zq [9] 11 15,zq [] 12 6,⟨[10],[12],[13],[]⟩,zq [11] 14 7] [(_,_),(_,_),(_,_),(_,_),(_,_),(_,_),(_,_)] rfl ⟨z1 rfl,z1 rfl,zp rfl (op_callPS _ _ _ _ 13 34 [.tmp 11] [.tmp 12] _ _ _ rfl call34 rfl rfl rfl (ok_match_index_startAt x at_ _ hv1) (zl rfl) rfl rfl rfl rfl rfl rfl rfl),zp rfl (op_move_take _ _ _ _ rfl),zp rfl (oE rfl),zp rfl (oE rfl),zp rfl (op_alloc_arr _ za60),zp rfl (op_storeA_arr _ _ _ _ (sz60.trans (congrArg some (ln_len hv3))) rfl rfl (ln_ones (fun _ => rfl) _) ((ln_len (f := Value.int .u8) hv2).symm.trans (ln_len (f := Value.int .u8) hv3))),z2 rfl,zz⟩ ?_
  refine pt_then (ht_seq ?_)
  refine zgg hn [_,_,_,_,_,_,_,(16,vb v1.2.1),(17,vb (!v1.2.1))] [0,1,2,3,4,5,6] [0,1,2,3,4,5,8] [zq [6] 7 16,zq [7] 8 17] [(_,_),(_,_),(_,_),(_,_),(_,_),(_,_),(_,_)] rfl ⟨z1 rfl,zp rfl (op_un _ _ _ _ rfl rfl),zz⟩ ?_
  refine ht_cond _ rfl (fun hb4 => ?_) (fun hb4 => ?_)
  ·have h := cond_t hb4 h
   refine zgg hn [_,_,_,_,_,_,_,(4,vi 0),(5,vi 0)] [0,1,2,3,4,5,6] [0,2,7,8] [⟨[],[3],[7],[(.slot 4)]⟩,⟨[],[4],[8],[(.slot 5)]⟩] [(_,_),(_,_),(_,_),(_,_)] rfl ⟨zp rfl (LOp.drop [_] (op_assign _ _ _ _ rfl rfl)),zp rfl (LOp.drop [_] (op_assign _ _ _ _ rfl rfl)),zz⟩ ?_
   refine ht_ret ?_
   refine pt_pick [2, 3, 0, 1] (by kernel_rfl) (es' := [(_,_),(_,_),(_,_),(_,_)]) rfl ?_
   refine pt_r_then ?_
   obtain rfl := Option.some.inj h
   exact pt_retP (es := [(4, .v (.int .i64 0)), (5, .v (.int .i64 0))]) (posts := [.box 56 [.fl .shr 1 (List.map (Value.int .u8) v1.2.2.b), .hid (mapT Try.prog 60 3 v1.2.2.last), .fl (.own 3) 1 (List.map (Value.int .i64) v1.2.2.back), .v (.int .i64 v1.2.2.from_)]]) hio rfl rfl (.tmp _ _ (.tmp _ _ .nil)) rfl rfl hargs0 rfl
  ·have h := cond_f hb4 h
   refine ht_skip ?_
   refine pt_then (ht_seq ?_)
   refine ht_joinS h (fun ((s109, s110, s111, s112, s113, s114) : (List Int) × (List ((List Int) × Int)) × (List Int) × Int × Int × Int) => [(0, .box 56 [.fl .shr 1 (List.map (Value.int .u8) s109), .hid (mapT Try.prog 60 3 s110), .fl (.own 3) 1 (List.map (Value.int .i64) s111), .v (.int .i64 s112)]), (0, .v (List.getD args0 0 undef)), (4, .v (.int .i64 s113)), (5, .v (.int .i64 s114))]) ?_ ?_
   ·rintro ⟨s109, s110, s111, s112, s113, s114⟩ h
    refine pt_then ?_
    refine zgg hn [_,_,_,_,(63,vi s113),(64,vi s114),(4,vi s113),(5,vi s114)] [0,1,2,3] [0,1,6,7] [zq [2] 4 63,zq [3] 5 64,⟨[4],[2],[6],[(.slot 4)]⟩,⟨[5],[3],[7],[(.slot 5)]⟩] [(_,_),(_,_),(_,_),(_,_)] rfl ⟨z1 rfl,z1 rfl,zp rfl (LOp.drop [_] (op_assign _ _ _ _ rfl rfl)),zp rfl (LOp.drop [_] (op_assign _ _ _ _ rfl rfl)),zz⟩ ?_
    refine ht_ret ?_
    refine pt_pick [2, 3, 0, 1] (by kernel_rfl) (es' := [(_,_),(_,_),(_,_),(_,_)]) rfl ?_
    obtain rfl := Option.some.inj h
    exact pt_retP (es := [(4, .v (.int .i64 s113)), (5, .v (.int .i64 s114))]) (posts := [.box 56 [.fl .shr 1 (List.map (Value.int .u8) s109), .hid (mapT Try.prog 60 3 s110), .fl (.own 3) 1 (List.map (Value.int .i64) s111), .v (.int .i64 s112)]]) hio rfl rfl (.tmp _ _ (.tmp _ _ .nil)) rfl rfl hargs0 rfl
   ·intro u115 h hl116 hr117
    refine ht_seq ?_
    obtain ⟨v5, hv5, h⟩ := bind_some h
    obtain ⟨v6, hv6, h⟩ := bind_some h
    obtain ⟨v7, hv7, h⟩ := bind_some h
    refine ht_anyR (by kernel_rfl) hn (El := (_ :: _ :: _ :: _ :: _ :: _ :: _ :: (18, .same (.slot 0)) :: (19, .ptr 0 0) :: (20, .ptr 0 1) :: (21, .same (.cell 0 1)) :: (22, .v (.agg (List.map (Value.int .u8) v1.1).toArray)) :: (23, .v (.int .i64 v6)) :: (24, .v (.int .i64 v7)) :: (8, .v (.int .i64 v7)) :: [])) (init := [0, 1, 2, 3, 4, 5, 6]) (fin := [0, 1, 2, 3, 4, 14]) (sps := [zq [] 7 18, zq [7,0] 8 19, zq [8,0] 9 20, zq [9,0] 10 21, zq [5] 11 22, zq [10,0,11] 12 23, zq [12] 13 24, zq [13] 14 8]) (es' := [(_,_),(_,_),(_,_),(_,_),(_,_),(8, .v (.int .i64 v7))]) (by kernel_rfl) rfl rfl ⟨zp rfl (op_move_name _ _ _ rfl),zp rfl (op_nilCheck_name _ _ _ 0 rfl rfl (by decide)),zp rfl (oF underlying56 rfl sz53),zp rfl (oL underlying53 rfl),zp rfl (op_loadA_arr _ _ _ _ underlying60 rfl (sz60.trans (congrArg some (ln_len hv5))) rfl rfl),zp rfl (op_lookup _ _ _ _ 0 1 _ _ mf53 rfl rfl (zl rfl) rfl rfl hv6),zp rfl (oB rfl (ibind (f := Value.int .i64) (Option.some.inj hv7))),z2 rfl,zz⟩ ?_
    refine pt_then ?_
    refine ht_loopS h (fun ((s159, s160, s161, s162, s163, s164, s165) : (List Int) × (List ((List Int) × Int)) × (List Int) × Int × Int × Int × Int) => [(0, .box 56 [.fl .shr 1 (List.map (Value.int .u8) s159), .hid (mapT Try.prog 60 3 s160), .fl (.own 3) 1 (List.map (Value.int .i64) s161), .v (.int .i64 s162)]), (1, .v (.int .i64 at_)), (0, .v (List.getD args0 0 undef)), (4, .v (.int .i64 s163)), (5, .v (.int .i64 s164)), (8, .v (.int .i64 s165))]) (fun ((s183, s184, s185, s186, s187, s188) : (List Int) × (List ((List Int) × Int)) × (List Int) × Int × Int × Int) => [(0, .box 56 [.fl .shr 1 (List.map (Value.int .u8) s183), .hid (mapT Try.prog 60 3 s184), .fl (.own 3) 1 (List.map (Value.int .i64) s185), .v (.int .i64 s186)]), (0, .v (List.getD args0 0 undef)), (4, .v (.int .i64 s187)), (5, .v (.int .i64 s188))]) ?_ ?_
    ·rintro ⟨s183, s184, s185, s186, s187, s188⟩ h
     exact hl116 _ (Option.some.inj h).symm
    ·rintro u189 hl190 hr191 ⟨s159, s160, s161, s162, s163, s164, s165⟩ rr194 h ho192
     refine ht_seq ?_
     refine ht_seq ?_
     refine ht_joinS h (fun (s195 : Bool) => [(0, .box 56 [.fl .shr 1 (List.map (Value.int .u8) s159), .hid (mapT Try.prog 60 3 s160), .fl (.own 3) 1 (List.map (Value.int .i64) s161), .v (.int .i64 s162)]), (1, .v (.int .i64 at_)), (0, .v (List.getD args0 0 undef)), (4, .v (.int .i64 s163)), (5, .v (.int .i64 s164)), (8, .v (.int .i64 s165)), (36, .v (.bool s195))]) ?_ ?_
     ·rintro s195 h
      refine pt_then ?_
      refine ht_cond _ rfl (fun hb199 => ?_) (fun hb199 => ?_)
      ·have h := cond_t hb199 h
       refine ht_skip ?_
       refine pt_then (ht_seq ?_)
       refine ht_block ?_
       refine ht_seq ?_
       refine ht_joinS h (fun ((s201, s202, s203, s204, s205, s206) : Int × Int × (List Int) × (List ((List Int) × Int)) × (List Int) × Int) => [(0, .box 56 [.fl .shr 1 (List.map (Value.int .u8) s203), .hid (mapT Try.prog 60 3 s204), .fl (.own 3) 1 (List.map (Value.int .i64) s205), .v (.int .i64 s206)]), (1, .v (.int .i64 at_)), (0, .v (List.getD args0 0 undef)), (8, .v (.int .i64 s165)), (4, .v (.int .i64 s201)), (5, .v (.int .i64 s202))]) ?_ ?_
       ·rintro ⟨s201, s202, s203, s204, s205, s206⟩ h
        refine pt_then ?_
        refine zgg hn [_,_,_,_,_,_,(61,vi s201),(62,vb (s201 == 258))] [0,1,2,3,4,5] [0,1,2,3,4,5,7] [zq [4] 6 61,zq [6] 7 62] [(_,_),(_,_),(_,_),(_,_),(_,_),(_,_),(_,_)] rfl ⟨z1 rfl,z4 rfl rfl,zz⟩ ?_
        refine ht_cond _ rfl (fun hb211 => ?_) (fun hb211 => ?_)
        ·have h := cond_t hb211 h
         refine ht_exit ?_
         refine pt_x_out (by decide) ?_
         refine pt_x_then ?_
         refine pt_x_then ?_
         refine pt_x_in ?_
         refine pt_pick [0, 2, 4, 5] (by kernel_rfl) (es' := [(_,_),(_,_),(_,_),(_,_)]) rfl ?_
         exact hl190 _ (ho192 _ (Option.some.inj h).symm).symm
        ·have h := cond_f hb211 h
         refine ht_skip ?_
         refine pt_inb ?_
         refine pt_then ?_
         obtain ⟨v28, hv28, h⟩ := bind_some h
         obtain ⟨v29, hv29, h⟩ := bind_some h
         obtain ⟨v30, hv30, h⟩ := bind_some h
         obtain ⟨v31, hv31, h⟩ := bind_some h
         refine ht_anyR (by kernel_rfl) hn (El := (_ :: _ :: _ :: _ :: _ :: _ :: _ :: (37, .same (.slot 0)) :: (38, .ptr 0 0) :: (39, .ptr 0 2) :: (40, .same (.cell 0 2)) :: (41, .v (.int .i64 s165)) :: (42, .same (.slot 0)) :: (43, .ptr 0 0) :: (44, .ptr 0 3) :: (45, .v (.int .i64 s206)) :: (46, .v (.int .i64 v28)) :: (47, .eref (.cell 0 2) (v29 * 1)) :: (48, .v (.int .i64 v30)) :: (49, .v (.int .i64 v31)) :: (8, .v (.int .i64 v31)) :: [])) (init := [0, 1, 2, 3, 4, 5, 6]) (fin := [0, 1, 2, 4, 5, 20]) (sps := [zq [] 7 37, zq [7,0] 8 38, zq [8,0] 9 39, zq [9,0] 10 40, zq [3] 11 41, zq [] 12 42, zq [12,0] 13 43, zq [13,0] 14 44, zq [14,0] 15 45, zq [11,15] 16 46, zq [10,0,16] 17 47, zq [17,0] 18 48, zq [18] 19 49, ⟨[19], [3], [20], [(.slot 8)]⟩]) (es' := [(_,_),(_,_),(_,_),(_,_),(_,_),(8, .v (.int .i64 v31))]) (by kernel_rfl) rfl rfl ⟨zp rfl (op_move_name _ _ _ rfl),zp rfl (op_nilCheck_name _ _ _ 0 rfl rfl (by decide)),zp rfl (oF underlying56 rfl sz54),zp rfl (oL underlying54 rfl),z1 rfl,zp rfl (op_move_name _ _ _ rfl),zp rfl (op_nilCheck_name _ _ _ 0 rfl rfl (by decide)),zp rfl (oF underlying56 rfl sz3),zp rfl (oL underlying3 rfl),zp rfl (oB rfl (ibind (f := Value.int .i64) (Option.some.inj hv28))),zp rfl (op_ix _ _ _ _ _ _ _ _ underlying54 sz3 (by decide) rfl rfl rfl (ix_ok hv29).1 (map_lt (ix_ok hv29).2) rfl),zp rfl (op_load_e _ _ _ _ _ _ underlying3 rfl rfl rfl (map_get hv30)),zp rfl (oB rfl (ibind (f := Value.int .i64) (Option.some.inj hv31))),zp rfl (LOp.drop [_] (op_assign _ _ _ _ rfl rfl)),zz⟩ ?_
         exact pt_next _ (Option.some.inj h).symm rfl
       ·intro u207 h hl208 hr209
        refine ht_seq ?_
        obtain ⟨v14, hv14, h⟩ := bind_some h
        refine zg hn [_,_,_,_,_,_,_,(50,.ptr 0 0),(51,vi s165),(52,vi at_),(53,vi v14.1),(0,.box 56 [.fl .shr 1 (List.map (Value.int .u8) v14.2.b),.hid (mapT Try.prog 60 3 v14.2.last),.fl (.own 3) 1 (List.map (Value.int .i64) v14.2.back),vi v14.2.from_]),(9,vi v14.1)] [0,1,2,3,4,5,6] [11,1,2,3,4,5,12] [zq [0] 7 50,zq [5] 8 51,zq [1] 9 52,⟨[7,8,9],[0],[11,10],[(.slot 53),(.cell 0 0),(.cell 0 1),(.cell 0 2),(.cell 0 3)]⟩,zq [10] 12 9] [(_,_),(_,_),(_,_),(_,_),(_,_),(_,_),(_,_)] rfl ⟨z1 rfl,z1 rfl,z1 rfl,zp rfl (op_callPS _ _ _ _ 53 35 [.tmp 50] [.tmp 51, .tmp 52] _ _ _ rfl call35 rfl rfl rfl (ok_match_index_common (T_match_index.mk s159 s160 s161 s162) s165 at_ _ hv14) (zl rfl) rfl rfl rfl rfl rfl rfl rfl),z2 rfl,zz⟩ ?_
        refine pt_then ?_
        refine zgg hn [_,_,_,_,_,_,_,(54,vi v14.1),(55,vi s163),(56,vb (decide (s163 < v14.1)))] [0,1,2,3,4,5,6] [0,1,2,3,4,5,6,9] [zq [6] 7 54,zq [3] 8 55,zq [7,8] 9 56] [(_,_),(_,_),(_,_),(_,_),(_,_),(_,_),(_,_),(_,_)] rfl ⟨z1 rfl,z1 rfl,z4 rfl rfl,zz⟩ ?_
        refine ht_cond _ rfl (fun hb210 => ?_) (fun hb210 => ?_)
        ·have h := cond_t hb210 h
         obtain ⟨v16, hv16, h⟩ := bind_some h
         refine zg hn [_,_,_,_,_,_,_,_,(57,vi v14.1),(58,vi at_),(59,vi s165),(60,vi v16),(4,vi v14.1),(5,vi v16)] [0,1,2,3,4,5,6,7] [0,1,2,5,12,13] [zq [6] 8 57,zq [1] 9 58,zq [5] 10 59,zq [9,10] 11 60,⟨[8],[3],[12],[(.slot 4)]⟩,⟨[11],[4],[13],[(.slot 5)]⟩] [(_,_),(_,_),(_,_),(_,_),(_,_),(_,_)] rfl ⟨z1 rfl,z1 rfl,z1 rfl,zp rfl (oB rfl (ibind (f := Value.int .i64) (Option.some.inj hv16))),zp rfl (LOp.drop [_] (op_assign _ _ _ _ rfl rfl)),zp rfl (LOp.drop [_] (op_assign _ _ _ _ rfl rfl)),zz⟩ ?_
         exact hl208 _ (Option.some.inj h).symm
        ·have h := cond_f hb210 h
         refine ht_skip ?_
         refine pt_pick [0, 1, 2, 5, 3, 4] (by kernel_rfl) (es' := [(_,_),(_,_),(_,_),(_,_),(_,_),(_,_)]) rfl ?_
         exact hl208 _ (Option.some.inj h).symm
      ·have h := cond_f hb199 h
       refine ht_exit ?_
       refine pt_x_then ?_
       refine pt_x_then ?_
       refine pt_x_in ?_
       refine pt_pick [0, 2, 3, 4] (by kernel_rfl) (es' := [(_,_),(_,_),(_,_),(_,_)]) rfl ?_
       exact hl190 _ (ho192 _ (Option.some.inj h).symm).symm
     ·intro u196 h hl197 hr198
      refine cond_some h (fun hg5_6 h => ?_) (fun hg5_6 h => ?_)
      ·obtain ⟨v8, hv8, h⟩ := bind_some h
       refine zg hn (_::_::_::_::_::_::(25,vi s165)::(26,.ptr 0 0)::(27,.ptr 0 0)::(28,.ptr 0 3)::(29,vi s162)::(30,vb (decide (s162 ≤ s165)))::(31,vb true)::(32,vi at_)::(33,vi s165)::(34,vi v8)::(35,vb (decide (v8 ≤ 2048)))::(36,vb (decide (v8 ≤ 2048)))::[]) [0,1,2,3,4,5] [0,1,2,3,4,5,17] [zq [5] 6 25,zq [0] 7 26,zq [7,0] 8 27,zq [8,0] 9 28,zq [9,0] 10 29,zq [6,10] 11 30,zq [11] 12 31,zq [12,1] 13 32,zq [12,5] 14 33,zq [12,13,14] 15 34,zq [12,15] 16 35,zq [12,16] 17 36] [(_,_),(_,_),(_,_),(_,_),(_,_),(_,_),(_,_)] rfl ⟨z1 rfl,z1 rfl,zp rfl (op_nilCheck _ _ _ 0 0 rfl (by decide)),zp rfl (oF underlying56 rfl sz3),zp rfl (oL underlying3 rfl),z4 rfl rfl,z8 hg5_6 rfl,zr' rfl (oM rfl),zr' rfl (oM rfl),zr' rfl (oB rfl (ibind (f := Value.int .i64) (Option.some.inj hv8))),zr' rfl (oB rfl rfl),z3 true rfl,zz⟩ ?_
       exact hl197 _ (Option.some.inj h).symm
      ·refine zg hn (_::_::_::_::_::_::(25,vi s165)::(26,.ptr 0 0)::(27,.ptr 0 0)::(28,.ptr 0 3)::(29,vi s162)::(30,vb (decide (s162 ≤ s165)))::(31,vb false)::(32,.v undef)::(33,.v undef)::(34,.v undef)::(35,.v undef)::(36,vb false)::[]) [0,1,2,3,4,5] [0,1,2,3,4,5,17] [zq [5] 6 25,zq [0] 7 26,zq [7,0] 8 27,zq [8,0] 9 28,zq [9,0] 10 29,zq [6,10] 11 30,zq [11] 12 31,zq [12] 13 32,zq [12] 14 33,zq [12] 15 34,zq [12] 16 35,zq [12] 17 36] [(_,_),(_,_),(_,_),(_,_),(_,_),(_,_),(_,_)] rfl ⟨z1 rfl,z1 rfl,zp rfl (op_nilCheck _ _ _ 0 0 rfl (by decide)),zp rfl (oF underlying56 rfl sz3),zp rfl (oL underlying3 rfl),z4 rfl rfl,z8 hg5_6 rfl,zt rfl,zt rfl,zt rfl,zt rfl,z3 false rfl,zz⟩ ?_
       exact hl197 _ (Option.some.inj h).symm
theorem ok_match_index_add (x : T_match_index) (at_ : Int) (r : T_match_index) (h : Sh.match_index_add x at_ = some r) : FnP Try.prog 30 [.box 56 [.fl .shr 1 (List.map (Value.int .u8) x.b), .hid (mapT Try.prog 60 3 x.last), .fl (.own 3) 1 (List.map (Value.int .i64) x.back), .v (.int .i64 x.from_)], .v (.int .i64 at_)] [.box 56 [.fl .shr 1 (List.map (Value.int .u8) r.b), .hid (mapT Try.prog 60 3 r.last), .fl (.own 3) 1 (List.map (Value.int .i64) r.back), .v (.int .i64 r.from_)]] (.tup []) := by
  unfold Sh.match_index_add at h
  refine fn_okP func30 rfl (zl rfl) rfl (zl rfl) fun args0 hargs0 g0 hn hio => ?_
  refine ht_seq ?_
  obtain ⟨v1, hv1, h⟩ := bind_some h
  obtain ⟨v2, hv2, h⟩ := bind_some h
  obtain ⟨v3, hv3, h⟩ := bind_some h
  refine zg hn [_,_,_,(7,.ptr 0 0),(8,vi at_),(9,.tup [.v (.agg (List.map (Value.int .u8) v1.1).toArray),vb v1.2.1]),(0,.box 56 [.fl .shr 1 (List.map (Value.int .u8) v1.2.2.b),.hid (mapT Try.prog 60 3 v1.2.2.last),.fl (.own 3) 1 (List.map (Value.int .i64) v1.2.2.back),vi v1.2.2.from_]),(6,.tup [.v (.agg (List.map (Value.int .u8) v1.1).toArray),vb v1.2.1]),(10,.v (.agg (List.map (Value.int .u8) v1.1).toArray)),(11,vb v1.2.1),(4,.arr 60 (List.map (Value.int .u8) ((List.replicate 3 (0 : Int))))),(4,.arr 60 (List.map (Value.int .u8) v1.1)),(5,vb v1.2.1)] [0,1,2] [6,1,2,11,12] [zq [0] 3 7,zq [1] 4 8,⟨[3,4],[0],[6,5],[(.slot 9),(.cell 0 0),(.cell 0 1),(.cell 0 2),(.cell 0 3)]⟩,⟨[],[5],[7],[(.slot 6)]⟩,zq [7] 8 10,zq [7] 9 11,zq [] 10 4,⟨[8],[10],[11],[]⟩,zq [9] 12 5] [(_,_),(_,_),(_,_),(_,_),(_,_)] rfl ⟨z1 rfl,z1 rfl,zp rfl (op_callPS _ _ _ _ 9 34 [.tmp 7] [.tmp 8] _ _ _ rfl call34 rfl rfl rfl (ok_match_index_startAt x at_ _ hv1) (zl rfl) rfl rfl rfl rfl rfl rfl rfl),zp rfl (op_move_take _ _ _ _ rfl),zp rfl (oE rfl),zp rfl (oE rfl),zp rfl (op_alloc_arr _ za60),zp rfl (op_storeA_arr _ _ _ _ (sz60.trans (congrArg some (ln_len hv3))) rfl rfl (ln_ones (fun _ => rfl) _) ((ln_len (f := Value.int .u8) hv2).symm.trans (ln_len (f := Value.int .u8) hv3))),z2 rfl,zz⟩ ?_
  refine pt_then (ht_seq ?_)
  refine zgg hn [_,_,_,_,_,(12,vb v1.2.1),(13,vb (!v1.2.1))] [0,1,2,3,4] [0,1,2,3,6] [zq [4] 5 12,zq [5] 6 13] [(_,_),(_,_),(_,_),(_,_),(_,_)] rfl ⟨z1 rfl,zp rfl (op_un _ _ _ _ rfl rfl),zz⟩ ?_
  refine ht_cond _ rfl (fun hb4 => ?_) (fun hb4 => ?_)
  ·have h := cond_t hb4 h
   refine ht_ret ?_
   refine pt_pick [0, 2] (by kernel_rfl) (es' := [(_,_),(_,_)]) rfl ?_
   refine pt_r_then ?_
   obtain rfl := Option.some.inj h
   exact pt_retP (es := []) (posts := [.box 56 [.fl .shr 1 (List.map (Value.int .u8) v1.2.2.b), .hid (mapT Try.prog 60 3 v1.2.2.last), .fl (.own 3) 1 (List.map (Value.int .i64) v1.2.2.back), .v (.int .i64 v1.2.2.from_)]]) hio rfl rfl .nil rfl rfl hargs0 rfl
  ·have h := cond_f hb4 h
   refine ht_skip ?_
   refine pt_then (ht_seq ?_)
   obtain ⟨v5, hv5, h⟩ := bind_some h
   obtain ⟨v6, hv6, h⟩ := bind_some h
   obtain ⟨v7, hv7, h⟩ := bind_some h
   refine ht_anyR (by kernel_rfl) hn (El := (_ :: _ :: _ :: _ :: _ :: (14, .same (.slot 0)) :: (15, .same (.slot 0)) :: (16, .ptr 0 0) :: (17, .ptr 0 2) :: (18, .same (.cell 0 2)) :: (19, .same (.slot 0)) :: (20, .ptr 0 0) :: (21, .ptr 0 1) :: (22, .same (.cell 0 1)) :: (23, .v (.agg (List.map (Value.int .u8) v1.1).toArray)) :: (24, .v (.int .i64 v6)) :: (25, .fl (.own 3) 1 (List.map (Value.int .i64) [v6])) :: (26, .fl (.own 3) 1 (List.map (Value.int .i64) v7)) :: (0, .box 56 [.fl .shr 1 (List.map (Value.int .u8) v1.2.2.b), .hid (mapT Try.prog 60 3 v1.2.2.last), .any, .v (.int .i64 v1.2.2.from_)]) :: (27, .ptr 0 0) :: (28, .ptr 0 2) :: (0, .box 56 [.fl .shr 1 (List.map (Value.int .u8) v1.2.2.b), .hid (mapT Try.prog 60 3 v1.2.2.last), .fl (.own 3) 1 (List.map (Value.int .i64) v7), .v (.int .i64 v1.2.2.from_)]) :: [])) (init := [0, 1, 2, 3, 4]) (fin := [21, 1, 2, 3]) (sps := (zq [] 5 14 :: zq [] 6 15 :: zq [6,0] 7 16 :: zq [7,0] 8 17 :: zq [8,0] 9 18 :: zq [] 10 19 :: zq [10,0] 11 20 :: zq [11,0] 12 21 :: zq [12,0] 13 22 :: zq [3] 14 23 :: zq [13,0,14] 15 24 :: zq [15] 16 25 :: ⟨[9, 16], [0], [18, 17], [(.slot 26)]⟩ :: zq [5,18] 19 27 :: zq [19,18] 20 28 :: ⟨[20], [9, 17, 18], [21], [.cell 0 2]⟩ :: [])) (es' := [(0, .box 56 [.fl .shr 1 (List.map (Value.int .u8) v1.2.2.b), .hid (mapT Try.prog 60 3 v1.2.2.last), .fl (.own 3) 1 (List.map (Value.int .i64) v7), .v (.int .i64 v1.2.2.from_)]), (_,_),(_,_),(_,_)]) (by kernel_rfl) rfl rfl ⟨zp rfl (op_move_name _ _ _ rfl),zp rfl (op_move_name _ _ _ rfl),zp rfl (op_nilCheck_name _ _ _ 0 rfl rfl (by decide)),zp rfl (oF underlying56 rfl sz54),zp rfl (oL underlying54 rfl),zp rfl (op_move_name _ _ _ rfl),zp rfl (op_nilCheck_name _ _ _ 0 rfl rfl (by decide)),zp rfl (oF underlying56 rfl sz53),zp rfl (oL underlying53 rfl),zp rfl (op_loadA_arr _ _ _ _ underlying60 rfl (sz60.trans (congrArg some (ln_len hv5))) rfl rfl),zp rfl (op_lookup _ _ _ _ 0 1 _ _ mf53 rfl rfl (zl rfl) rfl rfl hv6),zp rfl (op_buildSlice _ _ 1 (.int .i64 0) (List.map (Value.int .i64) [v6]) [(0, .int .i64 v6)] underlying54 sz3 zr3 (fun _ V w o a hv hes => by have e0 := rd_v hv hes (x := .tmp 24) rfl; simp only [List.map_toArray, List.map_cons, List.map_nil, e0]; try rfl) (litfill (by simp [Instr.fill, Value.cells]; rfl) (by simp [List.range, List.range.loop] <;> rfl)) (by simp [Value.oneCell']) rfl (by decide) (by decide) (by decide)),zp rfl (op_app_cell _ _ _ _ _ _ el54 rfl rfl (zl rfl) rfl (map_len _) (map_len _) hv7 ((List.map_append).symm.trans (congrArg (List.map _) (app_eq hv7))) (Nat.ne_of_beq_eq_false rfl) rfl rfl),zp rfl (op_nilCheck_name _ _ _ 0 rfl rfl (by decide)),zp rfl (oF underlying56 rfl sz54),zp rfl (LOp.drop [_] (op_store_take _ _ _ _ _ _ _ _ sz54 rfl rfl rfl (zl rfl) rfl rfl)),zz⟩ ?_
   refine pt_then ?_
   obtain ⟨v8, hv8, h⟩ := bind_some h
   obtain ⟨v9, hv9, h⟩ := bind_some h
   obtain ⟨v10, hv10, h⟩ := bind_some h
   refine ht_anyR (by kernel_rfl) hn (El := [_, _, _, _, (29, .same (.slot 0)), (30, .ptr 0 0), (31, .ptr 0 1), (32, .same (.cell 0 1)), (33, .v (.agg (List.map (Value.int .u8) v1.1).toArray)), (34, .v (.int .i64 at_)), (35, .v (.int .i64 v9)), (0, .box 56 [.fl .shr 1 (List.map (Value.int .u8) v1.2.2.b), .hid (mapT Try.prog 60 3 v10), .fl (.own 3) 1 (List.map (Value.int .i64) v7), .v (.int .i64 v1.2.2.from_)])]) (init := [0, 1, 2, 3]) (fin := [11, 2]) (sps := [zq [] 4 29, zq [4,0] 5 30, zq [5,0] 6 31, zq [6,0] 7 32, zq [3] 8 33, zq [1] 9 34, zq [9] 10 35, ⟨[7, 8, 10], [0], [11], []⟩]) (es' := [(0, .box 56 [.fl .shr 1 (List.map (Value.int .u8) v1.2.2.b), .hid (mapT Try.prog 60 3 v10), .fl (.own 3) 1 (List.map (Value.int .i64) v7), .v (.int .i64 v1.2.2.from_)]), (_,_)]) (by kernel_rfl) rfl rfl ⟨zp rfl (op_move_name _ _ _ rfl),zp rfl (op_nilCheck_name _ _ _ 0 rfl rfl (by decide)),zp rfl (oF underlying56 rfl sz53),zp rfl (oL underlying53 rfl),zp rfl (op_loadA_arr _ _ _ _ underlying60 rfl (sz60.trans (congrArg some (ln_len hv8))) rfl rfl),z1 rfl,zp rfl (oB rfl (ibind (f := Value.int .i64) (Option.some.inj hv9))),zp rfl (op_mapUpdate _ _ _ _ 0 1 _ _ mf53 rfl (zl rfl) rfl rfl rfl hv10 rfl),zz⟩ ?_
   obtain rfl := Option.some.inj h
   exact pt_endP (es := []) (posts := [.box 56 [.fl .shr 1 (List.map (Value.int .u8) v1.2.2.b), .hid (mapT Try.prog 60 3 v10), .fl (.own 3) 1 (List.map (Value.int .i64) v7), .v (.int .i64 v1.2.2.from_)]]) hio rfl rfl .nil rfl rfl hargs0 rfl
theorem ok_match_Tokens (b : (List Int)) (r : ((List T_Tok) × Int)) (h : Sh.match_Tokens b = some r) : FnOK Try.prog 14 [.fl .shr 1 (List.map (Value.int .u8) b)] (.tup [.fl (.own 40) 3 (List.flatten (List.map T_Tok.enc r.1)), .v (.int .i64 r.2)]) := by
  unfold Sh.match_Tokens at h
  refine fn_ok func14 rfl (zl rfl) rfl rfl fun g0 hn hio => ?_
  refine zgg hn [_,(2,.v (.slice none 0 0)),(3,vi 0)] [0] [0] [zq [] 1 2,zq [] 2 3] [(_,_)] rfl ⟨z2 rfl,z2 rfl,zz⟩ ?_
  refine ht_seq ?_
  refine zgg hn [_,(10,.fl .shr 1 (List.map (Value.int .u8) b)),(11,vi (b.length : Int)),(12,vb (decide (4096 < (b.length : Int))))] [0] [0,3] [zq [0] 1 10,zq [1] 2 11,zq [2] 3 12] [(_,_),(_,_)] rfl ⟨z1 rfl,zp rfl (op_len_fl _ _ _ underlying22 rfl (by decide) (map_len _)),z4 rfl rfl,zz⟩ ?_
  refine ht_cond _ rfl (fun hb1 => ?_) (fun hb1 => ?_)
  ·have h := cond_t hb1 h
   refine zgg hn [_,_,(2,.v (.slice none 0 0)),(3,vi 2)] [0,1] [2,3] [zq [] 2 2,zq [] 3 3] [(_,_),(_,_)] rfl ⟨z2 rfl,z2 rfl,zz⟩ ?_
   refine ht_ret ?_
   refine pt_sub (fs := [(2, .fl (.own 40) 3 (List.flatten (List.map T_Tok.enc []))), (3, .v (.int .i64 2))]) (.sub _ (sub_nil 40 3) rfl (.same _ .nil)) ?_
   refine pt_r_then ?_
   obtain rfl := Option.some.inj h
   exact pt_ret hio rfl (.tmp _ _ (.tmp _ _ .nil)) rfl rfl
  ·have h := cond_f hb1 h
   refine ht_skip ?_
   refine pt_then ?_
   refine zgg hn [_,_,(4,.v (.slice none 0 0))] [0,1] [0,2] [zq [] 2 4] [(_,_),(_,_)] rfl ⟨z2 rfl,zz⟩ ?_
   refine ht_seq ?_
   obtain ⟨v2, hv2, h⟩ := bind_some h
   refine zg hn [_,_,(13,.fl .shr 1 (List.map (Value.int .u8) b)),(14,.obox (Option.isSome v2) 56 [.fl .shr 1 (List.map (Value.int .u8) (((Option.getD v2 (default : T_match_index))).b)),.hid (mapT Try.prog 60 3 (((Option.getD v2 (default : T_match_index))).last)),.fl (.own 3) 1 (List.map (Value.int .i64) (((Option.getD v2 (default : T_match_index))).back)),vi (((Option.getD v2 (default : T_match_index))).from_)]),(5,.obox (Option.isSome v2) 56 [.fl .shr 1 (List.map (Value.int .u8) (((Option.getD v2 (default : T_match_index))).b)),.hid (mapT Try.prog 60 3 (((Option.getD v2 (default : T_match_index))).last)),.fl (.own 3) 1 (List.map (Value.int .i64) (((Option.getD v2 (default : T_match_index))).back)),vi (((Option.getD v2 (default : T_match_index))).from_)])] [0,1] [0,1,4] [zq [0] 2 13,zq [2] 3 14,⟨[],[3],[4],[(.slot 5)]⟩] [(_,_),(_,_),(_,_)] rfl ⟨z1 rfl,zp rfl (op_callS _ _ 28 _ _ rfl call28 rfl rfl (ok_match_newIndex_sh b 0 _ hv2) rfl),zp rfl (op_assign_take _ _ _ _ rfl),zz⟩ ?_
   refine pt_ob (d := default) (f := fun (v3 : T_match_index) => [.fl .shr 1 (List.map (Value.int .u8) v3.b), .hid (mapT Try.prog 60 3 v3.last), .fl (.own 3) 1 (List.map (Value.int .i64) v3.back), .v (.int .i64 v3.from_)]) 2 4 5 56 h (es1 := fun v3 => [(0, .fl .shr 1 (List.map (Value.int .u8) b)), (4, .v (.slice none 0 0)), (5, .box 56 [.fl .shr 1 (List.map (Value.int .u8) v3.b), .hid (mapT Try.prog 60 3 v3.last), .fl (.own 3) 1 (List.map (Value.int .i64) v3.back), .v (.int .i64 v3.from_)])]) (es0 := [(0, .fl .shr 1 (List.map (Value.int .u8) b)), (4, .v (.slice none 0 0)), (5, .v (.pointer none))]) rfl (fun _ => rfl) (by kernel_rfl) (fun _ => rfl) (fun _ => rfl) rfl (fun v3 hv4 h => ?_) (fun hv4 h => ?_)
   ·refine pt_then (ht_seq ?_)
    refine zgg hn [_,_,_,(6,vi 0)] [0,1,2] [0,1,2,3] [zq [] 3 6] [(_,_),(_,_),(_,_),(_,_)] rfl ⟨z2 rfl,zz⟩ ?_
    refine ht_sub (fs := [(0, .fl .shr 1 (List.map (Value.int .u8) b)), (4, .fl (.own 40) 3 (List.flatten (List.map T_Tok.enc []))), (5, .box 56 [.fl .shr 1 (List.map (Value.int .u8) v3.b), .hid (mapT Try.prog 60 3 v3.last), .fl (.own 3) 1 (List.map (Value.int .i64) v3.back), .v (.int .i64 v3.from_)]), (6, .v (.int .i64 0))]) (.same _ (.sub _ (sub_nil 40 3) rfl (.same _ (.same _ .nil)))) ?_
    refine ht_loopS h (fun ((s88, s89, s90, s91, s92, s93) : (List T_Tok) × (List Int) × (List ((List Int) × Int)) × (List Int) × Int × Int) => [(0, .fl .shr 1 (List.map (Value.int .u8) b)), (4, .fl (.own 40) 3 (List.flatten (List.map T_Tok.enc s88))), (5, .box 56 [.fl .shr 1 (List.map (Value.int .u8) s89), .hid (mapT Try.prog 60 3 s90), .fl (.own 3) 1 (List.map (Value.int .i64) s91), .v (.int .i64 s92)]), (6, .v (.int .i64 s93))]) (fun (s129 : (List T_Tok)) => [(4, .fl (.own 40) 3 (List.flatten (List.map T_Tok.enc s129)))]) ?_ ?_
    ·rintro s129 h
     refine pt_then ?_
     refine zgg hn [_,(48,.fl (.own 40) 3 (List.flatten (List.map T_Tok.enc s129))),(2,.fl (.own 40) 3 (List.flatten (List.map T_Tok.enc s129))),(3,vi 0)] [0] [2,3] [⟨[],[0],[1],[(.slot 48)]⟩,⟨[],[1],[2],[(.slot 2)]⟩,zq [] 3 3] [(_,_),(_,_)] rfl ⟨zp rfl (op_move_take _ _ _ _ rfl),zp rfl (op_assign_take _ _ _ _ rfl),z2 rfl,zz⟩ ?_
     refine ht_ret ?_
     obtain rfl := Option.some.inj h
     exact pt_ret hio rfl (.tmp _ _ (.tmp _ _ .nil)) rfl rfl
    ·rintro u130 hl131 hr132 ⟨s88, s89, s90, s91, s92, s93⟩ rr135 h ho133
     refine ht_seq ?_
     refine zgg hn [_,_,_,_,(15,vi s93),(16,.fl .shr 1 (List.map (Value.int .u8) b)),(17,vi (b.length : Int)),(18,vb (decide (s93 < (b.length : Int))))] [0,1,2,3] [0,1,2,3,7] [zq [3] 4 15,zq [0] 5 16,zq [5] 6 17,zq [4,6] 7 18] [(_,_),(_,_),(_,_),(_,_),(_,_)] rfl ⟨z1 rfl,z1 rfl,zp rfl (op_len_fl _ _ _ underlying22 rfl (by decide) (map_len _)),z4 rfl rfl,zz⟩ ?_
     refine ht_cond _ rfl (fun hb136 => ?_) (fun hb136 => ?_)
     ·have h := cond_t hb136 h
      refine ht_skip ?_
      refine pt_then ?_
      refine ht_block ?_
      refine ht_seq ?_
      obtain ⟨v6, hv6, h⟩ := bind_some h
      refine zg hn [_,_,_,_,_,(20,.ptr 5 0),(21,vi s93),(22,.tup [vi v6.1,vi v6.2.1]),(5,.box 56 [.fl .shr 1 (List.map (Value.int .u8) v6.2.2.b),.hid (mapT Try.prog 60 3 v6.2.2.last),.fl (.own 3) 1 (List.map (Value.int .i64) v6.2.2.back),vi v6.2.2.from_]),(19,.tup [vi v6.1,vi v6.2.1]),(23,vi v6.1),(24,vi v6.2.1),(7,vi v6.1),(8,vi v6.2.1)] [0,1,2,3,4] [0,1,8,3,12,13] [zq [2] 5 20,zq [3] 6 21,⟨[5,6],[2],[8,7],[(.slot 22),(.cell 5 0),(.cell 5 1),(.cell 5 2),(.cell 5 3)]⟩,⟨[],[7],[9],[(.slot 19)]⟩,zq [9] 10 23,zq [9] 11 24,zq [10] 12 7,zq [11] 13 8] [(_,_),(_,_),(_,_),(_,_),(_,_),(_,_)] rfl ⟨z1 rfl,z1 rfl,zp rfl (op_callPS _ _ _ _ 22 29 [.tmp 20] [.tmp 21] _ _ _ rfl call29 rfl rfl rfl (ok_match_index_best (T_match_index.mk s89 s90 s91 s92) s93 _ hv6) (zl rfl) rfl rfl rfl rfl rfl rfl rfl),zp rfl (op_move_take _ _ _ _ rfl),zp rfl (oE rfl),zp rfl (oE rfl),z2 rfl,z2 rfl,zz⟩ ?_
      refine pt_then ?_
      refine zgg hn [_,_,_,_,_,_,(25,vi v6.1),(26,vi v6.2.1),(27,.agg [.v (.int .u8 0),vi v6.1,vi v6.2.1]),(9,.box 40 [.v (.int .u8 0),vi 0,vi 0]),(9,.box 40 [.v (.int .u8 0),vi v6.1,vi v6.2.1])] [0,1,2,3,4,5] [0,1,2,3,4,10] [zq [4] 6 25,zq [5] 7 26,zq [6,7] 8 27,zq [] 9 9,⟨[8],[9],[10],[.cell 9 0,.cell 9 1,.cell 9 2]⟩] [(_,_),(_,_),(_,_),(_,_),(_,_),(_,_)] rfl ⟨z1 rfl,z1 rfl,zp rfl (op_build _ _ _ _ [1, 1, 1] _ _ underlying40 zr40 (fs40 _ underlying40) (.copy _ (.copy _ Src.nil)) rfl rfl rfl),zp rfl (op_alloc _ _ zr40),zp rfl (oS sz40 rfl),zz⟩ ?_
      refine ht_seq ?_
      refine ht_joinS h (fun ((s138, s139) : Int × Int) => [(0, .fl .shr 1 (List.map (Value.int .u8) b)), (4, .fl (.own 40) 3 (List.flatten (List.map T_Tok.enc s88))), (5, .box 56 [.fl .shr 1 (List.map (Value.int .u8) v6.2.2.b), .hid (mapT Try.prog 60 3 v6.2.2.last), .fl (.own 3) 1 (List.map (Value.int .i64) v6.2.2.back), .v (.int .i64 v6.2.2.from_)]), (6, .v (.int .i64 s93)), (9, .box 40 [.v (.int .u8 s138), .v (.int .i64 v6.1), .v (.int .i64 v6.2.1)]), (7, .v (.int .i64 s139))]) ?_ ?_
      ·rintro ⟨s138, s139⟩ h
       refine pt_then (ht_seq ?_)
       obtain ⟨v16, hv16, h⟩ := bind_some h
       refine zg hn [_,_,_,_,_,_,(35,.fl (.own 40) 3 (List.flatten (List.map T_Tok.enc s88))),(36,.agg [.v (.int .u8 s138),vi v6.1,vi v6.2.1]),(37,.fl (.own 40) 3 (List.flatten (List.map T_Tok.enc [(T_Tok.mk s138 v6.1 v6.2.1)]))),(38,.fl (.own 40) 3 (List.flatten (List.map T_Tok.enc v16))),(35,.any),(4,.fl (.own 40) 3 (List.flatten (List.map T_Tok.enc v16)))] [0,1,2,3,4,5] [0,2,3,5,11] [⟨[],[1],[6],[(.slot 35)]⟩,zq [4] 7 36,zq [7] 8 37,⟨[8],[6],[10,9],[(.slot 38)]⟩,⟨[],[9],[11],[(.slot 4)]⟩] [(_,_),(_,_),(_,_),(_,_),(_,_)] rfl ⟨zp rfl (op_move_take _ _ _ _ rfl),zp rfl (op_loadA _ _ _ _ _ _ _ underlying40 rfl sz40 rfl rfl (zl rfl) rfl rfl),zp rfl (op_buildSlice _ _ 3 (.agg #[.int .u8 0, .int .i64 0, .int .i64 0]) (List.flatten (List.map T_Tok.enc [(T_Tok.mk s138 v6.1 v6.2.1)])) [(0, .agg #[.int .u8 s138, .int .i64 v6.1, .int .i64 v6.2.1])] underlying23 sz40 zr40 (fun _ V w o a hv hes => by have e0 := agg_v (ys := [.int .u8 s138, .int .i64 v6.1, .int .i64 v6.2.1]) hv hes (x := .tmp 36) rfl; simp only [List.map_toArray, List.map_cons, List.map_nil, e0]; try rfl) (litfill (by simp [Instr.fill, Value.cells]; rfl) (by simp [List.range, List.range.loop, T_Tok.enc] <;> rfl)) (by simp [Value.oneCell', T_Tok.enc]) rfl (by decide) (by decide) (by decide)),zp rfl (op_app _ _ _ _ _ el23 rfl rfl (flat_len T_Tok.len _) (flat_len T_Tok.len _) hv16 (flat_app (app_eq hv16))),zp rfl (op_assign_take _ _ _ _ rfl),zz⟩ ?_
       refine pt_then ?_
       refine ht_loopS h (fun ((s152, s153, s154, s155, s156, s157) : (List Int) × (List ((List Int) × Int)) × (List Int) × Int × Int × Int) => [(0, .fl .shr 1 (List.map (Value.int .u8) b)), (5, .box 56 [.fl .shr 1 (List.map (Value.int .u8) s152), .hid (mapT Try.prog 60 3 s153), .fl (.own 3) 1 (List.map (Value.int .i64) s154), .v (.int .i64 s155)]), (6, .v (.int .i64 s156)), (7, .v (.int .i64 s157)), (4, .fl (.own 40) 3 (List.flatten (List.map T_Tok.enc v16)))]) (fun ((s159, s160, s161, s162, s163) : (List Int) × (List ((List Int) × Int)) × (List Int) × Int × Int) => [(0, .fl .shr 1 (List.map (Value.int .u8) b)), (5, .box 56 [.fl .shr 1 (List.map (Value.int .u8) s159), .hid (mapT Try.prog 60 3 s160), .fl (.own 3) 1 (List.map (Value.int .i64) s161), .v (.int .i64 s162)]), (6, .v (.int .i64 s163)), (4, .fl (.own 40) 3 (List.flatten (List.map T_Tok.enc v16)))]) ?_ ?_
       ·rintro ⟨s159, s160, s161, s162, s163⟩ h
        refine pt_inb ?_
        refine pt_pick [0, 3, 1, 2] (by kernel_rfl) (es' := [(_,_),(_,_),(_,_),(_,_)]) rfl ?_
        exact pt_next _ (Option.some.inj h).symm rfl
       ·rintro u164 hl165 hr166 ⟨s152, s153, s154, s155, s156, s157⟩ rr169 h ho167
        refine ht_seq ?_
        refine zgg hn [_,_,_,_,_,(39,vi s157),(40,vb (decide (0 < s157)))] [0,1,2,3,4] [0,1,2,3,4,6] [zq [3] 5 39,zq [5] 6 40] [(_,_),(_,_),(_,_),(_,_),(_,_),(_,_)] rfl ⟨z1 rfl,z4 rfl rfl,zz⟩ ?_
        refine ht_cond _ rfl (fun hb170 => ?_) (fun hb170 => ?_)
        ·have h := cond_t hb170 h
         refine ht_skip ?_
         refine pt_then (ht_seq ?_)
         refine ht_block ?_
         refine ht_seq ?_
         obtain ⟨v18, hv18, h⟩ := bind_some h
         refine zg hn [_,_,_,_,_,_,(43,.ptr 5 0),(44,vi s156),(45,.tup []),(5,.box 56 [.fl .shr 1 (List.map (Value.int .u8) v18.b),.hid (mapT Try.prog 60 3 v18.last),.fl (.own 3) 1 (List.map (Value.int .i64) v18.back),vi v18.from_])] [0,1,2,3,4,5] [0,9,2,3,4] [zq [1] 6 43,zq [2] 7 44,⟨[6,7],[1],[9,8],[(.slot 45),(.cell 5 0),(.cell 5 1),(.cell 5 2),(.cell 5 3)]⟩] [(_,_),(_,_),(_,_),(_,_),(_,_)] rfl ⟨z1 rfl,z1 rfl,zp rfl (op_callPS _ _ _ _ 45 30 [.tmp 43] [.tmp 44] _ _ _ rfl call30 rfl rfl rfl (ok_match_index_add (T_match_index.mk s152 s153 s154 s155) s156 _ hv18) (zl rfl) rfl rfl rfl rfl rfl rfl rfl),zz⟩ ?_
         refine pt_then ?_
         obtain ⟨v19, hv19, h⟩ := bind_some h
         refine zg hn [_,_,_,_,_,(46,vi s156),(47,vi v19),(6,vi v19)] [0,1,2,3,4] [0,1,3,4,7] [zq [2] 5 46,zq [5] 6 47,⟨[6],[2],[7],[(.slot 6)]⟩] [(_,_),(_,_),(_,_),(_,_),(_,_)] rfl ⟨z1 rfl,zp rfl (oB rfl (ibind (f := Value.int .i64) (Option.some.inj hv19))),zp rfl (LOp.drop [_] (op_assign _ _ _ _ rfl rfl)),zz⟩ ?_
         refine pt_inb ?_
         refine pt_then ?_
         obtain ⟨v20, hv20, h⟩ := bind_some h
         refine zg hn [_,_,_,_,_,(41,vi s157),(42,vi v20),(7,vi v20)] [0,1,2,3,4] [0,1,3,4,7] [zq [2] 5 41,zq [5] 6 42,⟨[6],[2],[7],[(.slot 7)]⟩] [(_,_),(_,_),(_,_),(_,_),(_,_)] rfl ⟨z1 rfl,zp rfl (oB rfl (ibind (f := Value.int .i64) (Option.some.inj hv20))),zp rfl (LOp.drop [_] (op_assign _ _ _ _ rfl rfl)),zz⟩ ?_
         refine pt_pick [0, 1, 3, 4, 2] (by kernel_rfl) (es' := [(_,_),(_,_),(_,_),(_,_),(_,_)]) rfl ?_
         exact pt_next _ (Option.some.inj h).symm rfl
        ·have h := cond_f hb170 h
         refine ht_exit ?_
         refine pt_x_then ?_
         refine pt_x_then ?_
         refine pt_x_in ?_
         refine pt_pick [0, 1, 2, 4] (by kernel_rfl) (es' := [(_,_),(_,_),(_,_),(_,_)]) rfl ?_
         exact hl165 _ (ho167 _ (Option.some.inj h).symm).symm
      ·intro u140 h hl141 hr142
       refine zgg hn [_,_,_,_,_,_,(28,vi v6.1),(29,vb (v6.1 == 0))] [0,1,2,3,4,5] [0,1,2,3,4,5,7] [zq [4] 6 28,zq [6] 7 29] [(_,_),(_,_),(_,_),(_,_),(_,_),(_,_),(_,_)] rfl ⟨z1 rfl,z4 rfl rfl,zz⟩ ?_
       refine ht_cond _ rfl (fun hb143 => ?_) (fun hb143 => ?_)
       ·have h := cond_t hb143 h
        refine ht_seq ?_
        obtain ⟨v8, hv8, h⟩ := bind_some h
        obtain ⟨v9, hv9, h⟩ := bind_some h
        refine zg hn [_,_,_,_,_,_,_,(30,.fl .shr 1 (List.map (Value.int .u8) b)),(31,vi s93),(32,.eref (.slot 30) (v8 * 1)),(33,.v (.int .u8 v9)),(34,.ptr 9 0),(9,.box 40 [.v (.int .u8 v9),vi v6.1,vi v6.2.1])] [0,1,2,3,4,5,6] [0,1,2,3,12] [zq [0] 7 30,zq [3] 8 31,zq [7,8] 9 32,zq [9,7] 10 33,zq [5] 11 34,⟨[11,10],[5],[12],[.cell 9 0]⟩] [(_,_),(_,_),(_,_),(_,_),(_,_)] rfl ⟨z1 rfl,z1 rfl,zp rfl (op_ix _ _ _ _ _ _ _ _ underlying22 sz5 (by decide) rfl rfl rfl (ix_ok hv8).1 (map_lt (ix_ok hv8).2) rfl),zp rfl (op_load_e _ _ _ _ _ _ underlying5 rfl rfl rfl (map_get hv9)),zp rfl (oF underlying40 rfl sz5),zp rfl (oS sz5 rfl),zz⟩ ?_
        refine pt_then ?_
        refine zg hn [_,_,_,_,_,(7,vi 1)] [0,1,2,3,4] [0,1,2,3,4,5] [zq [] 5 7] [(_,_),(_,_),(_,_),(_,_),(_,_),(_,_)] rfl ⟨z2 rfl,zz⟩ ?_
        exact hl141 _ (Option.some.inj h).symm
       ·have h := cond_f hb143 h
        refine ht_skip ?_
        refine pt_pick [0, 1, 2, 3, 5, 4] (by kernel_rfl) (es' := [(_,_),(_,_),(_,_),(_,_),(_,_),(_,_)]) rfl ?_
        exact hl141 _ (Option.some.inj h).symm
     ·have h := cond_f hb136 h
      refine ht_exit ?_
      refine pt_x_then ?_
      refine pt_x_then ?_
      refine pt_x_in ?_
      refine pt_pick [1] (by kernel_rfl) (es' := [(_,_)]) rfl ?_
      exact hl131 _ (ho133 _ (Option.some.inj h).symm).symm
   ·refine pt_then (ht_seq ?_)
    refine zgg hn [_,_,_,(6,vi 0)] [0,1,2] [0,1,2,3] [zq [] 3 6] [(_,_),(_,_),(_,_),(_,_)] rfl ⟨z2 rfl,zz⟩ ?_
    refine ht_loopS h (fun (() : Unit) => [(0, .fl .shr 1 (List.map (Value.int .u8) b)), (4, .v (.slice none 0 0)), (5, .v (.pointer none)), (6, .v (.int .i64 0))]) (fun (() : Unit) => [(4, .v (.slice none 0 0))]) ?_ ?_
    ·rintro ⟨⟩ h
     refine pt_then ?_
     refine zgg hn [_,(48,.v (.slice none 0 0)),(2,.v (.slice none 0 0)),(3,vi 0)] [0] [2,3] [zq [0] 1 48,zq [1] 2 2,zq [] 3 3] [(_,_),(_,_)] rfl ⟨z1 rfl,z2 rfl,z2 rfl,zz⟩ ?_
     refine ht_ret ?_
     refine pt_sub (fs := [(2, .fl (.own 40) 3 (List.flatten (List.map T_Tok.enc []))), (3, .v (.int .i64 0))]) (.sub _ (sub_nil 40 3) rfl (.same _ .nil)) ?_
     obtain rfl := Option.some.inj h
     exact pt_ret hio rfl (.tmp _ _ (.tmp _ _ .nil)) rfl rfl
    ·rintro u173 hl174 hr175 ⟨⟩ rr178 h ho176
     refine ht_seq ?_
     refine zgg hn [_,_,_,_,(15,vi 0),(16,.fl .shr 1 (List.map (Value.int .u8) b)),(17,vi (b.length : Int)),(18,vb (decide (0 < (b.length : Int))))] [0,1,2,3] [0,1,2,3,7] [zq [3] 4 15,zq [0] 5 16,zq [5] 6 17,zq [4,6] 7 18] [(_,_),(_,_),(_,_),(_,_),(_,_)] rfl ⟨z1 rfl,z1 rfl,zp rfl (op_len_fl _ _ _ underlying22 rfl (by decide) (map_len _)),z4 rfl rfl,zz⟩ ?_
     refine ht_cond _ rfl (fun hb179 => ?_) (fun hb179 => ?_)
     ·have h := cond_t hb179 h
      cases h
     ·have h := cond_f hb179 h
      refine ht_exit ?_
      refine pt_x_then ?_
      refine pt_x_then ?_
      refine pt_x_in ?_
      refine pt_pick [1] (by kernel_rfl) (es' := [(_,_)]) rfl ?_
      exact hl174 _ (ho176 _ (Option.some.inj h).symm).symm
theorem ok_match_Best (b : (List Int)) (at_ : Int) (r : (Int × Int)) (h : Sh.match_Best b at_ = some r) : FnOK Try.prog 16 [.fl .shr 1 (List.map (Value.int .u8) b), .v (.int .i64 at_)] (.tup [.v (.int .i64 r.1), .v (.int .i64 r.2)]) := by
  unfold Sh.match_Best at h
  refine fn_ok func16 rfl (zl rfl) rfl rfl fun g0 hn hio => ?_
  refine zgg hn [_,_,(4,vi 0),(5,vi 0)] [0,1] [0,1] [zq [] 2 4,zq [] 3 5] [(_,_),(_,_)] rfl ⟨z2 rfl,z2 rfl,zz⟩ ?_
  refine ht_seq ?_
  refine ht_seq ?_
  refine ht_joinS h (fun (s1 : Bool) => [(0, .fl .shr 1 (List.map (Value.int .u8) b)), (1, .v (.int .i64 at_)), (20, .v (.bool s1))]) ?_ ?_
  ·rintro s1 h
   refine pt_then ?_
   refine ht_cond _ rfl (fun hb5 => ?_) (fun hb5 => ?_)
   ·have h := cond_t hb5 h
    refine zgg hn [_,_,_,(4,vi 0),(5,vi 0)] [0,1,2] [3,4] [zq [] 3 4,zq [] 4 5] [(_,_),(_,_)] rfl ⟨z2 rfl,z2 rfl,zz⟩ ?_
    refine ht_ret ?_
    refine pt_r_then ?_
    obtain rfl := Option.some.inj h
    exact pt_ret hio rfl (.tmp _ _ (.tmp _ _ .nil)) rfl rfl
   ·have h := cond_f hb5 h
    refine ht_skip ?_
    refine pt_then (ht_seq ?_)
    obtain ⟨v6, hv6, h⟩ := bind_some h
    obtain ⟨v7, hv7, h⟩ := bind_some h
    obtain ⟨v8, hv8, h⟩ := bind_some h
    refine zg hn [_,_,_,(21,.fl .shr 1 (List.map (Value.int .u8) b)),(22,vi at_),(23,vi v6),(24,vi v7),(25,.obox (Option.isSome v8) 56 [.fl .shr 1 (List.map (Value.int .u8) (((Option.getD v8 (default : T_match_index))).b)),.hid (mapT Try.prog 60 3 (((Option.getD v8 (default : T_match_index))).last)),.fl (.own 3) 1 (List.map (Value.int .i64) (((Option.getD v8 (default : T_match_index))).back)),vi (((Option.getD v8 (default : T_match_index))).from_)]),(6,.obox (Option.isSome v8) 56 [.fl .shr 1 (List.map (Value.int .u8) (((Option.getD v8 (default : T_match_index))).b)),.hid (mapT Try.prog 60 3 (((Option.getD v8 (default : T_match_index))).last)),.fl (.own 3) 1 (List.map (Value.int .i64) (((Option.getD v8 (default : T_match_index))).back)),vi (((Option.getD v8 (default : T_match_index))).from_)])] [0,1,2] [1,8] [zq [0] 3 21,zq [1] 4 22,zq [4] 5 23,zq [5] 6 24,zq [3,6] 7 25,⟨[],[7],[8],[(.slot 6)]⟩] [(_,_),(_,_)] rfl ⟨z1 rfl,z1 rfl,zp rfl (oB rfl (ibind (f := Value.int .i64) (Option.some.inj hv6))),zp rfl ((Option.some.inj hv7) ▸ op_max _ _ _ _ rfl rfl),zp rfl (op_callS _ _ 28 _ _ rfl call28 rfl rfl (ok_match_newIndex_sh b v7 _ hv8) rfl),zp rfl (op_assign_take _ _ _ _ rfl),zz⟩ ?_
    refine pt_ob (d := default) (f := fun (v9 : T_match_index) => [.fl .shr 1 (List.map (Value.int .u8) v9.b), .hid (mapT Try.prog 60 3 v9.last), .fl (.own 3) 1 (List.map (Value.int .i64) v9.back), .v (.int .i64 v9.from_)]) 1 4 6 56 h (es1 := fun v9 => [(1, .v (.int .i64 at_)), (6, .box 56 [.fl .shr 1 (List.map (Value.int .u8) v9.b), .hid (mapT Try.prog 60 3 v9.last), .fl (.own 3) 1 (List.map (Value.int .i64) v9.back), .v (.int .i64 v9.from_)])]) (es0 := [(1, .v (.int .i64 at_)), (6, .v (.pointer none))]) rfl (fun _ => rfl) (by kernel_rfl) (fun _ => rfl) (fun _ => rfl) rfl (fun v9 hv10 h => ?_) (fun hv10 h => ?_)
    ·refine pt_then (ht_seq ?_)
     refine zgg hn [_,_,(26,.ptr 6 0),(27,.ptr 6 0),(28,.ptr 6 3),(29,vi v9.from_),(7,vi v9.from_)] [0,1] [0,1,6] [zq [1] 2 26,zq [2,1] 3 27,zq [3,1] 4 28,zq [4,1] 5 29,zq [5] 6 7] [(_,_),(_,_),(_,_)] rfl ⟨z1 rfl,zp rfl (op_nilCheck _ _ _ 6 0 rfl (by decide)),zp rfl (oF underlying56 rfl sz3),zp rfl (oL underlying3 rfl),z2 rfl,zz⟩ ?_
     refine ht_loopS h (fun ((s20, s21, s22, s23, s24) : (List Int) × (List ((List Int) × Int)) × (List Int) × Int × Int) => [(1, .v (.int .i64 at_)), (6, .box 56 [.fl .shr 1 (List.map (Value.int .u8) s20), .hid (mapT Try.prog 60 3 s21), .fl (.own 3) 1 (List.map (Value.int .i64) s22), .v (.int .i64 s23)]), (7, .v (.int .i64 s24))]) (fun ((s26, s27, s28, s29) : (List Int) × (List ((List Int) × Int)) × (List Int) × Int) => [(1, .v (.int .i64 at_)), (6, .box 56 [.fl .shr 1 (List.map (Value.int .u8) s26), .hid (mapT Try.prog 60 3 s27), .fl (.own 3) 1 (List.map (Value.int .i64) s28), .v (.int .i64 s29)])]) ?_ ?_
     ·rintro ⟨s26, s27, s28, s29⟩ h
      refine pt_then (ht_seq ?_)
      obtain ⟨v37, hv37, h⟩ := bind_some h
      refine zg hn [_,_,(38,.box 56 [.fl .shr 1 (List.map (Value.int .u8) s26),.hid (mapT Try.prog 60 3 s27),.fl (.own 3) 1 (List.map (Value.int .i64) s28),vi s29]),(39,vi at_),(40,.tup [vi v37.1,vi v37.2.1]),(38,.box 56 [.fl .shr 1 (List.map (Value.int .u8) v37.2.2.b),.hid (mapT Try.prog 60 3 v37.2.2.last),.fl (.own 3) 1 (List.map (Value.int .i64) v37.2.2.back),vi v37.2.2.from_]),(41,vi v37.1),(42,vi v37.2.1),(4,vi v37.1),(5,vi v37.2.1)] [0,1] [8,9] [⟨[],[1],[2],[(.slot 38)]⟩,zq [0] 3 39,⟨[3],[2],[5,4],[(.slot 40),(.cell 38 0),(.cell 38 1),(.cell 38 2),(.cell 38 3)]⟩,zq [4] 6 41,zq [4] 7 42,zq [6] 8 4,zq [7] 9 5] [(_,_),(_,_)] rfl ⟨zp rfl (op_move_take _ _ _ _ rfl),z1 rfl,zp rfl (op_callPS _ _ _ _ 40 29 [.tmp 38] [.tmp 39] _ _ _ rfl call29 rfl rfl rfl (ok_match_index_best (T_match_index.mk s26 s27 s28 s29) at_ _ hv37) (zl rfl) rfl rfl rfl rfl rfl rfl rfl),zp rfl (oE rfl),zp rfl (oE rfl),z2 rfl,z2 rfl,zz⟩ ?_
      refine pt_then (ht_ret ?_)
      obtain rfl := Option.some.inj h
      exact pt_ret hio rfl (.tmp _ _ (.tmp _ _ .nil)) rfl rfl
     ·rintro u30 hl31 hr32 ⟨s20, s21, s22, s23, s24⟩ rr35 h ho33
      refine ht_seq ?_
      refine zgg hn [_,_,_,(30,vi s24),(31,vi at_),(32,vb (decide (s24 < at_)))] [0,1,2] [0,1,2,5] [zq [2] 3 30,zq [0] 4 31,zq [3,4] 5 32] [(_,_),(_,_),(_,_),(_,_)] rfl ⟨z1 rfl,z1 rfl,z4 rfl rfl,zz⟩ ?_
      refine ht_cond _ rfl (fun hb36 => ?_) (fun hb36 => ?_)
      ·have h := cond_t hb36 h
       refine ht_skip ?_
       refine pt_then (ht_seq ?_)
       refine ht_block ?_
       obtain ⟨v12, hv12, h⟩ := bind_some h
       refine zg hn [_,_,_,_,(35,.ptr 6 0),(36,vi s24),(37,.tup []),(6,.box 56 [.fl .shr 1 (List.map (Value.int .u8) v12.b),.hid (mapT Try.prog 60 3 v12.last),.fl (.own 3) 1 (List.map (Value.int .i64) v12.back),vi v12.from_])] [0,1,2,3] [0,7,2] [zq [1] 4 35,zq [2] 5 36,⟨[4,5],[1],[7,6],[(.slot 37),(.cell 6 0),(.cell 6 1),(.cell 6 2),(.cell 6 3)]⟩] [(_,_),(_,_),(_,_)] rfl ⟨z1 rfl,z1 rfl,zp rfl (op_callPS _ _ _ _ 37 30 [.tmp 35] [.tmp 36] _ _ _ rfl call30 rfl rfl rfl (ok_match_index_add (T_match_index.mk s20 s21 s22 s23) s24 _ hv12) (zl rfl) rfl rfl rfl rfl rfl rfl rfl),zz⟩ ?_
       refine pt_inb ?_
       refine pt_then ?_
       obtain ⟨v13, hv13, h⟩ := bind_some h
       refine zg hn [_,_,_,(33,vi s24),(34,vi v13),(7,vi v13)] [0,1,2] [0,1,5] [zq [2] 3 33,zq [3] 4 34,⟨[4],[2],[5],[(.slot 7)]⟩] [(_,_),(_,_),(_,_)] rfl ⟨z1 rfl,zp rfl (oB rfl (ibind (f := Value.int .i64) (Option.some.inj hv13))),zp rfl (LOp.drop [_] (op_assign _ _ _ _ rfl rfl)),zz⟩ ?_
       exact pt_next _ (Option.some.inj h).symm rfl
      ·have h := cond_f hb36 h
       refine ht_exit ?_
       refine pt_x_then ?_
       refine pt_x_then ?_
       refine pt_x_in ?_
       refine pt_pick [0, 1] (by kernel_rfl) (es' := [(_,_),(_,_)]) rfl ?_
       exact hl31 _ (ho33 _ (Option.some.inj h).symm).symm
    ·cases h
  ·intro u2 h hl3 hr4
   refine cond_some h (fun hg1_2 h => ?_) (fun hg1_2 h => ?_)
   ·refine zg hn (_::_::(8,vi at_)::(9,vb (decide (at_ < 0)))::(10,vb true)::(11,.v undef)::(12,.v undef)::(13,.v undef)::(14,.v undef)::(15,vb true)::(16,vb true)::(17,.v undef)::(18,.v undef)::(19,.v undef)::(20,vb true)::[]) [0,1] [0,1,14] [zq [1] 2 8,zq [2] 3 9,zq [3] 4 10,zq [4] 5 11,zq [4] 6 12,zq [4] 7 13,zq [4] 8 14,zq [4] 9 15,zq [9] 10 16,zq [10] 11 17,zq [10] 12 18,zq [10] 13 19,zq [10] 14 20] [(_,_),(_,_),(_,_)] rfl ⟨z1 rfl,z4 rfl rfl,z8 hg1_2 rfl,zf rfl,zf rfl,zf rfl,zf rfl,z3 true rfl,z1 rfl,zf rfl,zf rfl,zf rfl,z3 true rfl,zz⟩ ?_
    exact hl3 _ (Option.some.inj h).symm
   ·refine cond_some h (fun hg1_8 h => ?_) (fun hg1_8 h => ?_)
    ·refine zg hn (_::_::(8,vi at_)::(9,vb (decide (at_ < 0)))::(10,vb false)::(11,vi at_)::(12,.fl .shr 1 (List.map (Value.int .u8) b))::(13,vi (b.length : Int))::(14,vb (decide ((b.length : Int) ≤ at_)))::(15,vb (decide ((b.length : Int) ≤ at_)))::(16,vb true)::(17,.v undef)::(18,.v undef)::(19,.v undef)::(20,vb true)::[]) [0,1] [0,1,14] [zq [1] 2 8,zq [2] 3 9,zq [3] 4 10,zq [4,1] 5 11,zq [4,0] 6 12,zq [4,6] 7 13,zq [4,5,7] 8 14,zq [4,8] 9 15,zq [9] 10 16,zq [10] 11 17,zq [10] 12 18,zq [10] 13 19,zq [10] 14 20] [(_,_),(_,_),(_,_)] rfl ⟨z1 rfl,z4 rfl rfl,z8 hg1_2 rfl,zr' rfl (oM rfl),zr' rfl (oM rfl),zr' rfl (op_len_fl _ _ _ underlying22 rfl (by decide) (map_len _)),zr' rfl (oB rfl rfl),z3 false rfl,z8 hg1_8 rfl,zf rfl,zf rfl,zf rfl,z3 true rfl,zz⟩ ?_
     exact hl3 _ (Option.some.inj h).symm
    ·refine zg hn (_::_::(8,vi at_)::(9,vb (decide (at_ < 0)))::(10,vb false)::(11,vi at_)::(12,.fl .shr 1 (List.map (Value.int .u8) b))::(13,vi (b.length : Int))::(14,vb (decide ((b.length : Int) ≤ at_)))::(15,vb (decide ((b.length : Int) ≤ at_)))::(16,vb false)::(17,.fl .shr 1 (List.map (Value.int .u8) b))::(18,vi (b.length : Int))::(19,vb (decide (4096 < (b.length : Int))))::(20,vb (decide (4096 < (b.length : Int))))::[]) [0,1] [0,1,14] [zq [1] 2 8,zq [2] 3 9,zq [3] 4 10,zq [4,1] 5 11,zq [4,0] 6 12,zq [4,6] 7 13,zq [4,5,7] 8 14,zq [4,8] 9 15,zq [9] 10 16,zq [10,0] 11 17,zq [10,11] 12 18,zq [10,12] 13 19,zq [10,13] 14 20] [(_,_),(_,_),(_,_)] rfl ⟨z1 rfl,z4 rfl rfl,z8 hg1_2 rfl,zr' rfl (oM rfl),zr' rfl (oM rfl),zr' rfl (op_len_fl _ _ _ underlying22 rfl (by decide) (map_len _)),zr' rfl (oB rfl rfl),z3 false rfl,z8 hg1_8 rfl,zr' rfl (oM rfl),zr' rfl (op_len_fl _ _ _ underlying22 rfl (by decide) (map_len _)),zr' rfl (oB rfl rfl),z3 false rfl,zz⟩ ?_
     exact hl3 _ (Option.some.inj h).symm
theorem ok_wherrykeep_Toks (a : (List T_Tok)) (b : (List T_Tok)) (r : Bool) (h : Sh.wherrykeep_Toks a b = some r) : FnOK Try.prog 20 [.fl .shr 3 (List.flatten (List.map T_Tok.enc a)), .fl .shr 3 (List.flatten (List.map T_Tok.enc b))] (.v (.bool r)) := by
  unfold Sh.wherrykeep_Toks at h
  refine fn_ok func20 rfl (zl rfl) rfl rfl fun g0 hn hio => ?_
  refine zgg hn [_,_,(4,vb false)] [0,1] [0,1] [zq [] 2 4] [(_,_),(_,_)] rfl ⟨z2 rfl,zz⟩ ?_
  refine ht_seq ?_
  refine zgg hn [_,_,(6,.fl .shr 3 (List.flatten (List.map T_Tok.enc a))),(7,vi (a.length : Int)),(8,.fl .shr 3 (List.flatten (List.map T_Tok.enc b))),(9,vi (b.length : Int)),(10,vb ((a.length : Int) != (b.length : Int)))] [0,1] [0,1,6] [zq [0] 2 6,zq [2] 3 7,zq [1] 4 8,zq [4] 5 9,zq [3,5] 6 10] [(_,_),(_,_),(_,_)] rfl ⟨z1 rfl,zp rfl (op_len_fl _ _ _ underlying23 rfl (by decide) (flat_len T_Tok.len _)),z1 rfl,zp rfl (op_len_fl _ _ _ underlying23 rfl (by decide) (flat_len T_Tok.len _)),z4 rfl rfl,zz⟩ ?_
  refine ht_cond _ rfl (fun hb1 => ?_) (fun hb1 => ?_)
  ·have h := cond_t hb1 h
   refine zgg hn [_,_,_,(4,vb false)] [0,1,2] [3] [zq [] 3 4] [(_,_)] rfl ⟨z2 rfl,zz⟩ ?_
   refine ht_ret ?_
   refine pt_r_then ?_
   obtain rfl := Option.some.inj h
   exact pt_ret hio rfl (.tmp _ _ .nil) rfl rfl
  ·have h := cond_f hb1 h
   refine ht_skip ?_
   refine pt_then (ht_seq ?_)
   refine zgg hn [_,_,_,(5,vi 0)] [0,1,2] [0,1,3] [zq [] 3 5] [(_,_),(_,_),(_,_)] rfl ⟨z2 rfl,zz⟩ ?_
   refine ht_loopS h (fun (s28 : Int) => [(0, .fl .shr 3 (List.flatten (List.map T_Tok.enc a))), (1, .fl .shr 3 (List.flatten (List.map T_Tok.enc b))), (5, .v (.int .i64 s28))]) (fun (() : Unit) => []) ?_ ?_
   ·rintro ⟨⟩ h
    refine pt_then ?_
    refine zgg hn [(4,vb true)] [] [0] [zq [] 0 4] [(_,_)] rfl ⟨z2 rfl,zz⟩ ?_
    refine ht_ret ?_
    obtain rfl := Option.some.inj h
    exact pt_ret hio rfl (.tmp _ _ .nil) rfl rfl
   ·rintro u35 hl36 hr37 s28 rr40 h ho38
    refine ht_seq ?_
    refine zgg hn [_,_,_,(11,vi s28),(12,.fl .shr 3 (List.flatten (List.map T_Tok.enc a))),(13,vi (a.length : Int)),(14,vb (decide (s28 < (a.length : Int))))] [0,1,2] [0,1,2,6] [zq [2] 3 11,zq [0] 4 12,zq [4] 5 13,zq [3,5] 6 14] [(_,_),(_,_),(_,_),(_,_)] rfl ⟨z1 rfl,z1 rfl,zp rfl (op_len_fl _ _ _ underlying23 rfl (by decide) (flat_len T_Tok.len _)),z4 rfl rfl,zz⟩ ?_
    refine ht_cond _ rfl (fun hb41 => ?_) (fun hb41 => ?_)
    ·have h := cond_t hb41 h
     refine ht_skip ?_
     refine pt_then (ht_seq ?_)
     refine ht_block ?_
     refine ht_seq ?_
     refine ht_joinS h (fun (s42 : Bool) => [(0, .fl .shr 3 (List.flatten (List.map T_Tok.enc a))), (1, .fl .shr 3 (List.flatten (List.map T_Tok.enc b))), (5, .v (.int .i64 s28)), (53, .v (.bool s42))]) ?_ ?_
     ·rintro s42 h
      refine pt_then ?_
      refine ht_cond _ rfl (fun hb46 => ?_) (fun hb46 => ?_)
      ·have h := cond_t hb46 h
       refine zgg hn [_,_,_,_,(4,vb false)] [0,1,2,3] [4] [zq [] 4 4] [(_,_)] rfl ⟨z2 rfl,zz⟩ ?_
       refine ht_ret ?_
       refine pt_r_in ?_
       refine pt_r_then ?_
       refine pt_r_then ?_
       refine pt_r_in ?_
       refine pt_r_then ?_
       have h := hr37 _ (ho38 _ (Option.some.inj h).symm).symm
       obtain rfl := Option.some.inj h
       exact pt_ret hio rfl (.tmp _ _ .nil) rfl rfl
      ·have h := cond_f hb46 h
       refine ht_skip ?_
       refine pt_inb ?_
       refine pt_then ?_
       obtain ⟨v20, hv20, h⟩ := bind_some h
       refine zg hn [_,_,_,_,(15,vi s28),(16,vi v20),(5,vi v20)] [0,1,2,3] [0,1,6] [zq [2] 4 15,zq [4] 5 16,⟨[5],[2],[6],[(.slot 5)]⟩] [(_,_),(_,_),(_,_)] rfl ⟨z1 rfl,zp rfl (oB rfl (ibind (f := Value.int .i64) (Option.some.inj hv20))),zp rfl (LOp.drop [_] (op_assign _ _ _ _ rfl rfl)),zz⟩ ?_
       exact pt_next _ (Option.some.inj h).symm rfl
     ·intro u43 h hl44 hr45
      obtain ⟨v3, hv3, h⟩ := bind_some h
      obtain ⟨v4, hv4, h⟩ := bind_some h
      obtain ⟨v5, hv5, h⟩ := bind_some h
      obtain ⟨v6, hv6, h⟩ := bind_some h
      refine cond_some h (fun hg6_11 h => ?_) (fun hg6_11 h => ?_)
      ·refine ht_anyR (by kernel_rfl) hn (El := (_ :: _ :: _ :: _ :: (17, .fl .shr 3 (List.flatten (List.map T_Tok.enc a))) :: (18, .v (.int .i64 s28)) :: (19, .eref (.slot 17) (v3 * 3)) :: (20, .eref (.slot 17) (v3 * 3 + 0)) :: (21, .v (.int .u8 v4.Byte)) :: (22, .fl .shr 3 (List.flatten (List.map T_Tok.enc b))) :: (23, .v (.int .i64 s28)) :: (24, .eref (.slot 22) (v5 * 3)) :: (25, .eref (.slot 22) (v5 * 3 + 0)) :: (26, .v (.int .u8 v6.Byte)) :: (27, .v (.bool (v4.Byte != v6.Byte))) :: (28, .v (.bool true)) :: (29, .v undef) :: (30, .v undef) :: (31, .v undef) :: (32, .v undef) :: (33, .v undef) :: (34, .v undef) :: (35, .v undef) :: (36, .v undef) :: (37, .v undef) :: (38, .v undef) :: (39, .v undef) :: (40, .v (.bool true)) :: (41, .v (.bool true)) :: (42, .v undef) :: (43, .v undef) :: (44, .v undef) :: (45, .v undef) :: (46, .v undef) :: (47, .v undef) :: (48, .v undef) :: (49, .v undef) :: (50, .v undef) :: (51, .v undef) :: (52, .v undef) :: (53, .v (.bool true)) :: [])) (init := [0, 1, 2, 3]) (fin := [0, 1, 2, 40]) (sps := (zq [0] 4 17 :: zq [2] 5 18 :: zq [4,5] 6 19 :: zq [6,4] 7 20 :: zq [7,4] 8 21 :: zq [1] 9 22 :: zq [2] 10 23 :: zq [9,10] 11 24 :: zq [11,9] 12 25 :: zq [12,9] 13 26 :: zq [8,13] 14 27 :: zq [14] 15 28 :: zq [15] 16 29 :: zq [15] 17 30 :: zq [15] 18 31 :: zq [15] 19 32 :: zq [15] 20 33 :: zq [15] 21 34 :: zq [15] 22 35 :: zq [15] 23 36 :: zq [15] 24 37 :: zq [15] 25 38 :: zq [15] 26 39 :: zq [15] 27 40 :: zq [27] 28 41 :: zq [28] 29 42 :: zq [28] 30 43 :: zq [28] 31 44 :: zq [28] 32 45 :: zq [28] 33 46 :: zq [28] 34 47 :: zq [28] 35 48 :: zq [28] 36 49 :: zq [28] 37 50 :: zq [28] 38 51 :: zq [28] 39 52 :: zq [28] 40 53 :: [])) (es' := [(_,_),(_,_),(_,_),(53, .v (.bool true))]) (by kernel_rfl) rfl rfl ⟨z1 rfl,z1 rfl,zp rfl (op_ix _ _ _ _ _ _ _ _ underlying23 sz40 (by decide) rfl rfl rfl (ix_ok hv3).1 (flat_lt T_Tok.len (ix_ok hv3).2) rfl),zp rfl (op_fieldAddr_e _ _ _ _ _ _ _ underlying40 rfl sz5 rfl rfl rfl),zp rfl (op_load_e _ _ _ _ _ _ underlying5 rfl rfl rfl (flat_cell T_Tok.len hv4 rfl)),z1 rfl,z1 rfl,zp rfl (op_ix _ _ _ _ _ _ _ _ underlying23 sz40 (by decide) rfl rfl rfl (ix_ok hv5).1 (flat_lt T_Tok.len (ix_ok hv5).2) rfl),zp rfl (op_fieldAddr_e _ _ _ _ _ _ _ underlying40 rfl sz5 rfl rfl rfl),zp rfl (op_load_e _ _ _ _ _ _ underlying5 rfl rfl rfl (flat_cell T_Tok.len hv6 rfl)),z4 rfl rfl,z8 hg6_11 rfl,zf rfl,zf rfl,zf rfl,zf rfl,zf rfl,zf rfl,zf rfl,zf rfl,zf rfl,zf rfl,zf rfl,z3 true rfl,z1 rfl,zf rfl,zf rfl,zf rfl,zf rfl,zf rfl,zf rfl,zf rfl,zf rfl,zf rfl,zf rfl,zf rfl,z3 true rfl,zz⟩ ?_
       exact hl44 _ (Option.some.inj h).symm
      ·obtain ⟨v7, hv7, h⟩ := bind_some h
       obtain ⟨v8, hv8, h⟩ := bind_some h
       obtain ⟨v9, hv9, h⟩ := bind_some h
       obtain ⟨v10, hv10, h⟩ := bind_some h
       refine cond_some h (fun hg6_24 h => ?_) (fun hg6_24 h => ?_)
       ·refine ht_anyR (by kernel_rfl) hn (El := (_ :: _ :: _ :: _ :: (17, .fl .shr 3 (List.flatten (List.map T_Tok.enc a))) :: (18, .v (.int .i64 s28)) :: (19, .eref (.slot 17) (v3 * 3)) :: (20, .eref (.slot 17) (v3 * 3 + 0)) :: (21, .v (.int .u8 v4.Byte)) :: (22, .fl .shr 3 (List.flatten (List.map T_Tok.enc b))) :: (23, .v (.int .i64 s28)) :: (24, .eref (.slot 22) (v5 * 3)) :: (25, .eref (.slot 22) (v5 * 3 + 0)) :: (26, .v (.int .u8 v6.Byte)) :: (27, .v (.bool (v4.Byte != v6.Byte))) :: (28, .v (.bool false)) :: (29, .fl .shr 3 (List.flatten (List.map T_Tok.enc a))) :: (30, .v (.int .i64 s28)) :: (31, .eref (.slot 29) (v7 * 3)) :: (32, .eref (.slot 29) (v7 * 3 + 1)) :: (33, .v (.int .i64 v8.Len)) :: (34, .fl .shr 3 (List.flatten (List.map T_Tok.enc b))) :: (35, .v (.int .i64 s28)) :: (36, .eref (.slot 34) (v9 * 3)) :: (37, .eref (.slot 34) (v9 * 3 + 1)) :: (38, .v (.int .i64 v10.Len)) :: (39, .v (.bool (v8.Len != v10.Len))) :: (40, .v (.bool (v8.Len != v10.Len))) :: (41, .v (.bool true)) :: (42, .v undef) :: (43, .v undef) :: (44, .v undef) :: (45, .v undef) :: (46, .v undef) :: (47, .v undef) :: (48, .v undef) :: (49, .v undef) :: (50, .v undef) :: (51, .v undef) :: (52, .v undef) :: (53, .v (.bool true)) :: [])) (init := [0, 1, 2, 3]) (fin := [0, 1, 2, 40]) (sps := (zq [0] 4 17 :: zq [2] 5 18 :: zq [4,5] 6 19 :: zq [6,4] 7 20 :: zq [7,4] 8 21 :: zq [1] 9 22 :: zq [2] 10 23 :: zq [9,10] 11 24 :: zq [11,9] 12 25 :: zq [12,9] 13 26 :: zq [8,13] 14 27 :: zq [14] 15 28 :: zq [15,0] 16 29 :: zq [15,2] 17 30 :: zq [15,16,17] 18 31 :: zq [15,18,16] 19 32 :: zq [15,19,16] 20 33 :: zq [15,1] 21 34 :: zq [15,2] 22 35 :: zq [15,21,22] 23 36 :: zq [15,23,21] 24 37 :: zq [15,24,21] 25 38 :: zq [15,20,25] 26 39 :: zq [15,26] 27 40 :: zq [27] 28 41 :: zq [28] 29 42 :: zq [28] 30 43 :: zq [28] 31 44 :: zq [28] 32 45 :: zq [28] 33 46 :: zq [28] 34 47 :: zq [28] 35 48 :: zq [28] 36 49 :: zq [28] 37 50 :: zq [28] 38 51 :: zq [28] 39 52 :: zq [28] 40 53 :: [])) (es' := [(_,_),(_,_),(_,_),(53, .v (.bool true))]) (by kernel_rfl) rfl rfl ⟨z1 rfl,z1 rfl,zp rfl (op_ix _ _ _ _ _ _ _ _ underlying23 sz40 (by decide) rfl rfl rfl (ix_ok hv3).1 (flat_lt T_Tok.len (ix_ok hv3).2) rfl),zp rfl (op_fieldAddr_e _ _ _ _ _ _ _ underlying40 rfl sz5 rfl rfl rfl),zp rfl (op_load_e _ _ _ _ _ _ underlying5 rfl rfl rfl (flat_cell T_Tok.len hv4 rfl)),z1 rfl,z1 rfl,zp rfl (op_ix _ _ _ _ _ _ _ _ underlying23 sz40 (by decide) rfl rfl rfl (ix_ok hv5).1 (flat_lt T_Tok.len (ix_ok hv5).2) rfl),zp rfl (op_fieldAddr_e _ _ _ _ _ _ _ underlying40 rfl sz5 rfl rfl rfl),zp rfl (op_load_e _ _ _ _ _ _ underlying5 rfl rfl rfl (flat_cell T_Tok.len hv6 rfl)),z4 rfl rfl,z8 hg6_11 rfl,zr' rfl (oM rfl),zr' rfl (oM rfl),zr' rfl (op_ix _ _ _ _ _ _ _ _ underlying23 sz40 (by decide) rfl rfl rfl (ix_ok hv7).1 (flat_lt T_Tok.len (ix_ok hv7).2) rfl),zr' rfl (op_fieldAddr_e _ _ _ _ _ _ _ underlying40 rfl sz3 rfl rfl rfl),zr' rfl (op_load_e _ _ _ _ _ _ underlying3 rfl rfl rfl (flat_cell T_Tok.len hv8 rfl)),zr' rfl (oM rfl),zr' rfl (oM rfl),zr' rfl (op_ix _ _ _ _ _ _ _ _ underlying23 sz40 (by decide) rfl rfl rfl (ix_ok hv9).1 (flat_lt T_Tok.len (ix_ok hv9).2) rfl),zr' rfl (op_fieldAddr_e _ _ _ _ _ _ _ underlying40 rfl sz3 rfl rfl rfl),zr' rfl (op_load_e _ _ _ _ _ _ underlying3 rfl rfl rfl (flat_cell T_Tok.len hv10 rfl)),zr' rfl (oB rfl rfl),z3 false rfl,z8 hg6_24 rfl,zf rfl,zf rfl,zf rfl,zf rfl,zf rfl,zf rfl,zf rfl,zf rfl,zf rfl,zf rfl,zf rfl,z3 true rfl,zz⟩ ?_
        exact hl44 _ (Option.some.inj h).symm
       ·obtain ⟨v11, hv11, h⟩ := bind_some h
        obtain ⟨v12, hv12, h⟩ := bind_some h
        obtain ⟨v13, hv13, h⟩ := bind_some h
        obtain ⟨v14, hv14, h⟩ := bind_some h
        refine ht_anyR (by kernel_rfl) hn (El := (_ :: _ :: _ :: _ :: (17, .fl .shr 3 (List.flatten (List.map T_Tok.enc a))) :: (18, .v (.int .i64 s28)) :: (19, .eref (.slot 17) (v3 * 3)) :: (20, .eref (.slot 17) (v3 * 3 + 0)) :: (21, .v (.int .u8 v4.Byte)) :: (22, .fl .shr 3 (List.flatten (List.map T_Tok.enc b))) :: (23, .v (.int .i64 s28)) :: (24, .eref (.slot 22) (v5 * 3)) :: (25, .eref (.slot 22) (v5 * 3 + 0)) :: (26, .v (.int .u8 v6.Byte)) :: (27, .v (.bool (v4.Byte != v6.Byte))) :: (28, .v (.bool false)) :: (29, .fl .shr 3 (List.flatten (List.map T_Tok.enc a))) :: (30, .v (.int .i64 s28)) :: (31, .eref (.slot 29) (v7 * 3)) :: (32, .eref (.slot 29) (v7 * 3 + 1)) :: (33, .v (.int .i64 v8.Len)) :: (34, .fl .shr 3 (List.flatten (List.map T_Tok.enc b))) :: (35, .v (.int .i64 s28)) :: (36, .eref (.slot 34) (v9 * 3)) :: (37, .eref (.slot 34) (v9 * 3 + 1)) :: (38, .v (.int .i64 v10.Len)) :: (39, .v (.bool (v8.Len != v10.Len))) :: (40, .v (.bool (v8.Len != v10.Len))) :: (41, .v (.bool false)) :: (42, .fl .shr 3 (List.flatten (List.map T_Tok.enc a))) :: (43, .v (.int .i64 s28)) :: (44, .eref (.slot 42) (v11 * 3)) :: (45, .eref (.slot 42) (v11 * 3 + 2)) :: (46, .v (.int .i64 v12.Dist)) :: (47, .fl .shr 3 (List.flatten (List.map T_Tok.enc b))) :: (48, .v (.int .i64 s28)) :: (49, .eref (.slot 47) (v13 * 3)) :: (50, .eref (.slot 47) (v13 * 3 + 2)) :: (51, .v (.int .i64 v14.Dist)) :: (52, .v (.bool (v12.Dist != v14.Dist))) :: (53, .v (.bool (v12.Dist != v14.Dist))) :: [])) (init := [0, 1, 2, 3]) (fin := [0, 1, 2, 40]) (sps := (zq [0] 4 17 :: zq [2] 5 18 :: zq [4,5] 6 19 :: zq [6,4] 7 20 :: zq [7,4] 8 21 :: zq [1] 9 22 :: zq [2] 10 23 :: zq [9,10] 11 24 :: zq [11,9] 12 25 :: zq [12,9] 13 26 :: zq [8,13] 14 27 :: zq [14] 15 28 :: zq [15,0] 16 29 :: zq [15,2] 17 30 :: zq [15,16,17] 18 31 :: zq [15,18,16] 19 32 :: zq [15,19,16] 20 33 :: zq [15,1] 21 34 :: zq [15,2] 22 35 :: zq [15,21,22] 23 36 :: zq [15,23,21] 24 37 :: zq [15,24,21] 25 38 :: zq [15,20,25] 26 39 :: zq [15,26] 27 40 :: zq [27] 28 41 :: zq [28,0] 29 42 :: zq [28,2] 30 43 :: zq [28,29,30] 31 44 :: zq [28,31,29] 32 45 :: zq [28,32,29] 33 46 :: zq [28,1] 34 47 :: zq [28,2] 35 48 :: zq [28,34,35] 36 49 :: zq [28,36,34] 37 50 :: zq [28,37,34] 38 51 :: zq [28,33,38] 39 52 :: zq [28,39] 40 53 :: [])) (es' := [(_,_),(_,_),(_,_),(53, .v (.bool (v12.Dist != v14.Dist)))]) (by kernel_rfl) rfl rfl ⟨z1 rfl,z1 rfl,zp rfl (op_ix _ _ _ _ _ _ _ _ underlying23 sz40 (by decide) rfl rfl rfl (ix_ok hv3).1 (flat_lt T_Tok.len (ix_ok hv3).2) rfl),zp rfl (op_fieldAddr_e _ _ _ _ _ _ _ underlying40 rfl sz5 rfl rfl rfl),zp rfl (op_load_e _ _ _ _ _ _ underlying5 rfl rfl rfl (flat_cell T_Tok.len hv4 rfl)),z1 rfl,z1 rfl,zp rfl (op_ix _ _ _ _ _ _ _ _ underlying23 sz40 (by decide) rfl rfl rfl (ix_ok hv5).1 (flat_lt T_Tok.len (ix_ok hv5).2) rfl),zp rfl (op_fieldAddr_e _ _ _ _ _ _ _ underlying40 rfl sz5 rfl rfl rfl),zp rfl (op_load_e _ _ _ _ _ _ underlying5 rfl rfl rfl (flat_cell T_Tok.len hv6 rfl)),z4 rfl rfl,z8 hg6_11 rfl,zr' rfl (oM rfl),zr' rfl (oM rfl),zr' rfl (op_ix _ _ _ _ _ _ _ _ underlying23 sz40 (by decide) rfl rfl rfl (ix_ok hv7).1 (flat_lt T_Tok.len (ix_ok hv7).2) rfl),zr' rfl (op_fieldAddr_e _ _ _ _ _ _ _ underlying40 rfl sz3 rfl rfl rfl),zr' rfl (op_load_e _ _ _ _ _ _ underlying3 rfl rfl rfl (flat_cell T_Tok.len hv8 rfl)),zr' rfl (oM rfl),zr' rfl (oM rfl),zr' rfl (op_ix _ _ _ _ _ _ _ _ underlying23 sz40 (by decide) rfl rfl rfl (ix_ok hv9).1 (flat_lt T_Tok.len (ix_ok hv9).2) rfl),zr' rfl (op_fieldAddr_e _ _ _ _ _ _ _ underlying40 rfl sz3 rfl rfl rfl),zr' rfl (op_load_e _ _ _ _ _ _ underlying3 rfl rfl rfl (flat_cell T_Tok.len hv10 rfl)),zr' rfl (oB rfl rfl),z3 false rfl,z8 hg6_24 rfl,zr' rfl (oM rfl),zr' rfl (oM rfl),zr' rfl (op_ix _ _ _ _ _ _ _ _ underlying23 sz40 (by decide) rfl rfl rfl (ix_ok hv11).1 (flat_lt T_Tok.len (ix_ok hv11).2) rfl),zr' rfl (op_fieldAddr_e _ _ _ _ _ _ _ underlying40 rfl sz3 rfl rfl rfl),zr' rfl (op_load_e _ _ _ _ _ _ underlying3 rfl rfl rfl (flat_cell T_Tok.len hv12 rfl)),zr' rfl (oM rfl),zr' rfl (oM rfl),zr' rfl (op_ix _ _ _ _ _ _ _ _ underlying23 sz40 (by decide) rfl rfl rfl (ix_ok hv13).1 (flat_lt T_Tok.len (ix_ok hv13).2) rfl),zr' rfl (op_fieldAddr_e _ _ _ _ _ _ _ underlying40 rfl sz3 rfl rfl rfl),zr' rfl (op_load_e _ _ _ _ _ _ underlying3 rfl rfl rfl (flat_cell T_Tok.len hv14 rfl)),zr' rfl (oB rfl rfl),z3 false rfl,zz⟩ ?_
        exact hl44 _ (Option.some.inj h).symm
    ·have h := cond_f hb41 h
     refine ht_exit ?_
     refine pt_x_then ?_
     refine pt_x_then ?_
     refine pt_x_in ?_
     refine pt_pick [] (by kernel_rfl) (es' := []) rfl ?_
     exact hl36 _ (ho38 _ (Option.some.inj h).symm).symm
theorem ok_wherrykeep_Bytes (a : (List Int)) (b : (List Int)) (r : Bool) (h : Sh.wherrykeep_Bytes a b = some r) : FnOK Try.prog 21 [.fl .shr 1 (List.map (Value.int .u8) a), .fl .shr 1 (List.map (Value.int .u8) b)] (.v (.bool r)) := by
  unfold Sh.wherrykeep_Bytes at h
  refine fn_ok func21 rfl (zl rfl) rfl rfl fun g0 hn hio => ?_
  refine zgg hn [_,_,(4,vb false)] [0,1] [0,1] [zq [] 2 4] [(_,_),(_,_)] rfl ⟨z2 rfl,zz⟩ ?_
  refine ht_seq ?_
  refine zgg hn [_,_,(6,.fl .shr 1 (List.map (Value.int .u8) a)),(7,vi (a.length : Int)),(8,.fl .shr 1 (List.map (Value.int .u8) b)),(9,vi (b.length : Int)),(10,vb ((a.length : Int) != (b.length : Int)))] [0,1] [0,1,6] [zq [0] 2 6,zq [2] 3 7,zq [1] 4 8,zq [4] 5 9,zq [3,5] 6 10] [(_,_),(_,_),(_,_)] rfl ⟨z1 rfl,zp rfl (op_len_fl _ _ _ underlying22 rfl (by decide) (map_len _)),z1 rfl,zp rfl (op_len_fl _ _ _ underlying22 rfl (by decide) (map_len _)),z4 rfl rfl,zz⟩ ?_
  refine ht_cond _ rfl (fun hb1 => ?_) (fun hb1 => ?_)
  ·have h := cond_t hb1 h
   refine zgg hn [_,_,_,(4,vb false)] [0,1,2] [3] [zq [] 3 4] [(_,_)] rfl ⟨z2 rfl,zz⟩ ?_
   refine ht_ret ?_
   refine pt_r_then ?_
   obtain rfl := Option.some.inj h
   exact pt_ret hio rfl (.tmp _ _ .nil) rfl rfl
  ·have h := cond_f hb1 h
   refine ht_skip ?_
   refine pt_then (ht_seq ?_)
   refine zgg hn [_,_,_,(5,vi 0)] [0,1,2] [0,1,3] [zq [] 3 5] [(_,_),(_,_),(_,_)] rfl ⟨z2 rfl,zz⟩ ?_
   refine ht_loopS h (fun (s12 : Int) => [(0, .fl .shr 1 (List.map (Value.int .u8) a)), (1, .fl .shr 1 (List.map (Value.int .u8) b)), (5, .v (.int .i64 s12))]) (fun (() : Unit) => []) ?_ ?_
   ·rintro ⟨⟩ h
    refine pt_then ?_
    refine zgg hn [(4,vb true)] [] [0] [zq [] 0 4] [(_,_)] rfl ⟨z2 rfl,zz⟩ ?_
    refine ht_ret ?_
    obtain rfl := Option.some.inj h
    exact pt_ret hio rfl (.tmp _ _ .nil) rfl rfl
   ·rintro u15 hl16 hr17 s12 rr20 h ho18
    refine ht_seq ?_
    refine zgg hn [_,_,_,(11,vi s12),(12,.fl .shr 1 (List.map (Value.int .u8) a)),(13,vi (a.length : Int)),(14,vb (decide (s12 < (a.length : Int))))] [0,1,2] [0,1,2,6] [zq [2] 3 11,zq [0] 4 12,zq [4] 5 13,zq [3,5] 6 14] [(_,_),(_,_),(_,_),(_,_)] rfl ⟨z1 rfl,z1 rfl,zp rfl (op_len_fl _ _ _ underlying22 rfl (by decide) (map_len _)),z4 rfl rfl,zz⟩ ?_
    refine ht_cond _ rfl (fun hb21 => ?_) (fun hb21 => ?_)
    ·have h := cond_t hb21 h
     refine ht_skip ?_
     refine pt_then (ht_seq ?_)
     refine ht_block ?_
     refine ht_seq ?_
     obtain ⟨v3, hv3, h⟩ := bind_some h
     obtain ⟨v4, hv4, h⟩ := bind_some h
     obtain ⟨v5, hv5, h⟩ := bind_some h
     obtain ⟨v6, hv6, h⟩ := bind_some h
     refine ht_anyR (by kernel_rfl) hn (El := [_, _, _, _, (17, .fl .shr 1 (List.map (Value.int .u8) a)), (18, .v (.int .i64 s12)), (19, .eref (.slot 17) (v3 * 1)), (20, .v (.int .u8 v4)), (21, .fl .shr 1 (List.map (Value.int .u8) b)), (22, .v (.int .i64 s12)), (23, .eref (.slot 21) (v5 * 1)), (24, .v (.int .u8 v6)), (25, .v (.bool (v4 != v6)))]) (init := [0, 1, 2, 3]) (fin := [0, 1, 2, 12]) (sps := [zq [0] 4 17, zq [2] 5 18, zq [4,5] 6 19, zq [6,4] 7 20, zq [1] 8 21, zq [2] 9 22, zq [8,9] 10 23, zq [10,8] 11 24, zq [7,11] 12 25]) (es' := [(_,_),(_,_),(_,_),(25, .v (.bool (v4 != v6)))]) (by kernel_rfl) rfl rfl ⟨z1 rfl,z1 rfl,zp rfl (op_ix _ _ _ _ _ _ _ _ underlying22 sz5 (by decide) rfl rfl rfl (ix_ok hv3).1 (map_lt (ix_ok hv3).2) rfl),zp rfl (op_load_e _ _ _ _ _ _ underlying5 rfl rfl rfl (map_get hv4)),z1 rfl,z1 rfl,zp rfl (op_ix _ _ _ _ _ _ _ _ underlying22 sz5 (by decide) rfl rfl rfl (ix_ok hv5).1 (map_lt (ix_ok hv5).2) rfl),zp rfl (op_load_e _ _ _ _ _ _ underlying5 rfl rfl rfl (map_get hv6)),z4 rfl rfl,zz⟩ ?_
     refine pt_then ?_
     refine ht_cond _ rfl (fun hb22 => ?_) (fun hb22 => ?_)
     ·have h := cond_t hb22 h
      refine zgg hn [_,_,_,_,(4,vb false)] [0,1,2,3] [4] [zq [] 4 4] [(_,_)] rfl ⟨z2 rfl,zz⟩ ?_
      refine ht_ret ?_
      refine pt_r_in ?_
      refine pt_r_then ?_
      refine pt_r_then ?_
      refine pt_r_in ?_
      refine pt_r_then ?_
      have h := hr17 _ (ho18 _ (Option.some.inj h).symm).symm
      obtain rfl := Option.some.inj h
      exact pt_ret hio rfl (.tmp _ _ .nil) rfl rfl
     ·have h := cond_f hb22 h
      refine ht_skip ?_
      refine pt_inb ?_
      refine pt_then ?_
      obtain ⟨v8, hv8, h⟩ := bind_some h
      refine zg hn [_,_,_,_,(15,vi s12),(16,vi v8),(5,vi v8)] [0,1,2,3] [0,1,6] [zq [2] 4 15,zq [4] 5 16,⟨[5],[2],[6],[(.slot 5)]⟩] [(_,_),(_,_),(_,_)] rfl ⟨z1 rfl,zp rfl (oB rfl (ibind (f := Value.int .i64) (Option.some.inj hv8))),zp rfl (LOp.drop [_] (op_assign _ _ _ _ rfl rfl)),zz⟩ ?_
      exact pt_next _ (Option.some.inj h).symm rfl
    ·have h := cond_f hb21 h
     refine ht_exit ?_
     refine pt_x_then ?_
     refine pt_x_then ?_
     refine pt_x_in ?_
     refine pt_pick [] (by kernel_rfl) (es' := []) rfl ?_
     exact hl16 _ (ho18 _ (Option.some.inj h).symm).symm
theorem ok_wherrylaw04_wakes (r : Bool) (h : Sh.wherrylaw04_wakes  = some r) : FnOK Try.prog 25 [] (.v (.bool r)) := by
  unfold Sh.wherrylaw04_wakes at h
  refine fn_ok func25 rfl (zl rfl) rfl rfl fun g0 hn hio => ?_
  refine zgg hn [(0,vb false)] [] [] [zq [] 0 0] [] rfl ⟨z2 rfl,zz⟩ ?_
  refine ht_seq ?_
  obtain ⟨v1, hv1, h⟩ := bind_some h
  refine zg hn [(8,.fl (.own 5) 1 (List.map (Value.int .u8) [97,97,97,97,97])),(9,.fl .ro 1 (List.map (Value.int .u8) [97,97,97,97,97])),(10,.tup [.fl (.own 40) 3 (List.flatten (List.map T_Tok.enc v1.1)),vi v1.2]),(7,.tup [.fl (.own 40) 3 (List.flatten (List.map T_Tok.enc v1.1)),vi v1.2]),(11,.fl (.own 40) 3 (List.flatten (List.map T_Tok.enc v1.1))),(7,.tup [.any,vi v1.2]),(12,vi v1.2),(1,.fl (.own 40) 3 (List.flatten (List.map T_Tok.enc v1.1))),(2,vi v1.2)] [] [7,8] [zq [] 0 8,⟨[],[0],[1],[(.slot 9)]⟩,zq [1] 2 10,⟨[],[2],[3],[(.slot 7)]⟩,⟨[],[3],[5,4],[(.slot 11)]⟩,zq [5] 6 12,⟨[],[4],[7],[(.slot 1)]⟩,zq [6] 8 2] [(_,_),(_,_)] rfl ⟨zp rfl (op_buildSlice _ _ 1 (.int .u8 0) (List.map (Value.int .u8) [97, 97, 97, 97, 97]) [(0, .int .u8 97), (1, .int .u8 97), (2, .int .u8 97), (3, .int .u8 97), (4, .int .u8 97)] underlying22 sz5 zr5 (fun _ V w o a hv hes => by simp only [List.map_toArray, List.map_cons, List.map_nil]; try rfl) (litfill (by simp [Instr.fill, Value.cells]; rfl) (by simp [List.range, List.range.loop] <;> rfl)) (by simp [Value.oneCell']) rfl (by decide) (by decide) (by decide)),zp rfl (op_conv_mark _ _ _ underlying22 underlying5 (by intro h; cases h)),zp rfl (op_call _ _ 14 _ _ rfl call14 rfl (ok_match_Tokens [97, 97, 97, 97, 97] _ hv1) rfl rfl),zp rfl (op_move_take _ _ _ _ rfl),zp rfl (op_extract_take _ _ _ _ _ rfl (zl rfl) rfl rfl (by decide) rfl),zp rfl (oE rfl),zp rfl (op_assign_take _ _ _ _ rfl),z2 rfl,zz⟩ ?_
  refine pt_then (ht_seq ?_)
  obtain ⟨v2, hv2, h⟩ := bind_some h
  refine zg hn [_,_,(14,.same (.slot 1)),(15,.tup [.fl (.own 5) 1 (List.map (Value.int .u8) v2.1),vi v2.2]),(13,.tup [.fl (.own 5) 1 (List.map (Value.int .u8) v2.1),vi v2.2]),(16,.fl (.own 5) 1 (List.map (Value.int .u8) v2.1)),(13,.tup [.any,vi v2.2]),(17,vi v2.2),(3,.fl (.own 5) 1 (List.map (Value.int .u8) v2.1)),(4,vi v2.2)] [0,1] [0,1,8,9] [zq [0] 2 14,zq [2,0] 3 15,⟨[],[3],[4],[(.slot 13)]⟩,⟨[],[4],[6,5],[(.slot 16)]⟩,zq [6] 7 17,⟨[],[5],[8],[(.slot 3)]⟩,zq [7] 9 4] [(_,_),(_,_),(_,_),(_,_)] rfl ⟨z1 rfl,zp rfl (op_call _ _ 18 _ _ rfl call18 rfl (ok_match_Expand v1.1 _ hv2) rfl rfl),zp rfl (op_move_take _ _ _ _ rfl),zp rfl (op_extract_take _ _ _ _ _ rfl (zl rfl) rfl rfl (by decide) rfl),zp rfl (oE rfl),zp rfl (op_assign_take _ _ _ _ rfl),z2 rfl,zz⟩ ?_
  refine pt_then (ht_seq ?_)
  obtain ⟨v3, hv3, h⟩ := bind_some h
  refine zg hn [_,_,_,_,(19,.fl (.own 5) 1 (List.map (Value.int .u8) [97,97,97,97,97])),(20,.fl .ro 1 (List.map (Value.int .u8) [97,97,97,97,97])),(21,.tup [vi v3.1,vi v3.2]),(18,.tup [vi v3.1,vi v3.2]),(22,vi v3.1),(23,vi v3.2),(5,vi v3.1),(6,vi v3.2)] [0,1,2,3] [0,1,2,3,10,11] [zq [] 4 19,⟨[],[4],[5],[(.slot 20)]⟩,zq [5] 6 21,⟨[],[6],[7],[(.slot 18)]⟩,zq [7] 8 22,zq [7] 9 23,zq [8] 10 5,zq [9] 11 6] [(_,_),(_,_),(_,_),(_,_),(_,_),(_,_)] rfl ⟨zp rfl (op_buildSlice _ _ 1 (.int .u8 0) (List.map (Value.int .u8) [97, 97, 97, 97, 97]) [(0, .int .u8 97), (1, .int .u8 97), (2, .int .u8 97), (3, .int .u8 97), (4, .int .u8 97)] underlying22 sz5 zr5 (fun _ V w o a hv hes => by simp only [List.map_toArray, List.map_cons, List.map_nil]; try rfl) (litfill (by simp [Instr.fill, Value.cells]; rfl) (by simp [List.range, List.range.loop] <;> rfl)) (by simp [Value.oneCell']) rfl (by decide) (by decide) (by decide)),zp rfl (op_conv_mark _ _ _ underlying22 underlying5 (by intro h; cases h)),zp rfl (op_call _ _ 16 _ _ rfl call16 rfl (ok_match_Best [97, 97, 97, 97, 97] 1 _ hv3) rfl rfl),zp rfl (op_move_take _ _ _ _ rfl),zp rfl (oE rfl),zp rfl (oE rfl),z2 rfl,z2 rfl,zz⟩ ?_
  refine pt_then (ht_seq ?_)
  refine ht_joinS h (fun (s6 : Bool) => [(0, .v (.bool s6))]) ?_ ?_
  ·rintro s6 h
   refine pt_then (ht_ret ?_)
   obtain rfl := Option.some.inj h
   exact pt_ret hio rfl (.tmp _ _ .nil) rfl rfl
  ·intro u7 h hl8 hr9
   refine cond_some h (fun hg4_2 h => ?_) (fun hg4_2 h => ?_)
   ·refine cond_some h (fun hg4_6 h => ?_) (fun hg4_6 h => ?_)
    ·obtain ⟨v4, hv4, h⟩ := bind_some h
     refine cond_some h (fun hg4_13 h => ?_) (fun hg4_13 h => ?_)
     ·obtain ⟨v5, hv5, h⟩ := bind_some h
      refine cond_some h (fun hg4_19 h => ?_) (fun hg4_19 h => ?_)
      ·refine cond_some h (fun hg4_23 h => ?_) (fun hg4_23 h => ?_)
       ·refine zg hn (_::_::_::_::_::_::(24,vi v1.2)::(25,vb (v1.2 == 0))::(26,vb true)::(27,vi v2.2)::(28,vb (v2.2 == 0))::(29,vb (v2.2 == 0))::(30,vb true)::(31,.fl (.own 40) 3 (List.flatten (List.map T_Tok.enc v1.1)))::(32,.agg [.v (.int .u8 97),vi 0,vi 0])::(33,.agg [.v (.int .u8 0),vi 4,vi 1])::(34,.fl (.own 40) 3 (List.flatten (List.map T_Tok.enc [(T_Tok.mk 97 0 0),(T_Tok.mk 0 4 1)])))::(35,vb v4)::(36,vb v4)::(37,vb true)::(38,.fl (.own 5) 1 (List.map (Value.int .u8) v2.1))::(39,.fl (.own 5) 1 (List.map (Value.int .u8) [97,97,97,97,97]))::(40,.fl .ro 1 (List.map (Value.int .u8) [97,97,97,97,97]))::(41,vb v5)::(42,vb v5)::(43,vb true)::(44,vi v3.1)::(45,vb (v3.1 == 4))::(46,vb (v3.1 == 4))::(47,vb true)::(48,vi v3.2)::(49,vb (v3.2 == 1))::(50,vb (v3.2 == 1))::(0,vb (v3.2 == 1))::[]) [0,1,2,3,4,5] [33] (zq [1] 6 24::zq [6] 7 25::zq [7] 8 26::zq [8,3] 9 27::zq [8,9] 10 28::zq [8,10] 11 29::zq [11] 12 30::⟨[12],[0],[13],[(.slot 31)]⟩::zq [12] 14 32::zq [12] 15 33::zq [12,14,15] 16 34::zq [12,13,16] 17 35::zq [12,17] 18 36::zq [18] 19 37::⟨[19],[2],[20],[(.slot 38)]⟩::zq [19] 21 39::⟨[19],[21],[22],[(.slot 40)]⟩::zq [19,20,22] 23 41::zq [19,23] 24 42::zq [24] 25 43::zq [25,4] 26 44::zq [25,26] 27 45::zq [25,27] 28 46::zq [28] 29 47::zq [29,5] 30 48::zq [29,30] 31 49::zq [29,31] 32 50::zq [32] 33 0::[]) [(_,_)] rfl ⟨z1 rfl,z4 rfl rfl,z8 hg4_2 rfl,zr' rfl (oM rfl),zr' rfl (oB rfl rfl),z3 true rfl,z8 hg4_6 rfl,zr' rfl (op_move_take _ _ _ _ rfl),zr' rfl (op_build _ _ _ _ [1, 1, 1] _ _ underlying40 zr40 (fs40 _ underlying40) (.copy _ Src.nil) rfl rfl rfl),zr' rfl (op_build _ _ _ _ [1, 1, 1] _ _ underlying40 zr40 (fs40 _ underlying40) (.copy _ (.copy _ Src.nil)) rfl rfl rfl),zr' rfl (op_buildSlice _ _ 3 (.agg #[.int .u8 0, .int .i64 0, .int .i64 0]) (List.flatten (List.map T_Tok.enc [(T_Tok.mk 97 0 0), (T_Tok.mk 0 4 1)])) [(0, .agg #[.int .u8 97, .int .i64 0, .int .i64 0]), (1, .agg #[.int .u8 0, .int .i64 4, .int .i64 1])] underlying23 sz40 zr40 (fun _ V w o a hv hes => by have e0 := agg_v (ys := [.int .u8 97, .int .i64 0, .int .i64 0]) hv hes (x := .tmp 32) rfl; have e1 := agg_v (ys := [.int .u8 0, .int .i64 4, .int .i64 1]) hv hes (x := .tmp 33) rfl; simp only [List.map_toArray, List.map_cons, List.map_nil, e0, e1]; try rfl) (litfill (by simp [Instr.fill, Value.cells]; rfl) (by simp [List.range, List.range.loop, T_Tok.enc] <;> rfl)) (by simp [Value.oneCell', T_Tok.enc]) rfl (by decide) (by decide) (by decide)),zr' rfl (op_call _ _ 20 _ _ rfl call20 rfl (ok_wherrykeep_Toks v1.1 [(T_Tok.mk 97 0 0), (T_Tok.mk 0 4 1)] _ hv4) rfl rfl),z3 true rfl,z8 hg4_13 rfl,zr' rfl (op_move_take _ _ _ _ rfl),zr' rfl (op_buildSlice _ _ 1 (.int .u8 0) (List.map (Value.int .u8) [97, 97, 97, 97, 97]) [(0, .int .u8 97), (1, .int .u8 97), (2, .int .u8 97), (3, .int .u8 97), (4, .int .u8 97)] underlying22 sz5 zr5 (fun _ V w o a hv hes => by simp only [List.map_toArray, List.map_cons, List.map_nil]; try rfl) (litfill (by simp [Instr.fill, Value.cells]; rfl) (by simp [List.range, List.range.loop] <;> rfl)) (by simp [Value.oneCell']) rfl (by decide) (by decide) (by decide)),zr' rfl (op_conv_mark _ _ _ underlying22 underlying5 (by intro h; cases h)),zr' rfl (op_call _ _ 21 _ _ rfl call21 rfl (ok_wherrykeep_Bytes v2.1 [97, 97, 97, 97, 97] _ hv5) rfl rfl),z3 true rfl,z8 hg4_19 rfl,zr' rfl (oM rfl),zr' rfl (oB rfl rfl),z3 true rfl,z8 hg4_23 rfl,zr' rfl (oM rfl),zr' rfl (oB rfl rfl),z3 true rfl,z2 rfl,zz⟩ ?_
        exact hl8 _ (Option.some.inj h).symm
       ·refine zg hn (_::_::_::_::_::_::(24,vi v1.2)::(25,vb (v1.2 == 0))::(26,vb true)::(27,vi v2.2)::(28,vb (v2.2 == 0))::(29,vb (v2.2 == 0))::(30,vb true)::(31,.fl (.own 40) 3 (List.flatten (List.map T_Tok.enc v1.1)))::(32,.agg [.v (.int .u8 97),vi 0,vi 0])::(33,.agg [.v (.int .u8 0),vi 4,vi 1])::(34,.fl (.own 40) 3 (List.flatten (List.map T_Tok.enc [(T_Tok.mk 97 0 0),(T_Tok.mk 0 4 1)])))::(35,vb v4)::(36,vb v4)::(37,vb true)::(38,.fl (.own 5) 1 (List.map (Value.int .u8) v2.1))::(39,.fl (.own 5) 1 (List.map (Value.int .u8) [97,97,97,97,97]))::(40,.fl .ro 1 (List.map (Value.int .u8) [97,97,97,97,97]))::(41,vb v5)::(42,vb v5)::(43,vb true)::(44,vi v3.1)::(45,vb (v3.1 == 4))::(46,vb (v3.1 == 4))::(47,vb false)::(48,.v undef)::(49,.v undef)::(50,vb false)::(0,vb false)::[]) [0,1,2,3,4,5] [33] (zq [1] 6 24::zq [6] 7 25::zq [7] 8 26::zq [8,3] 9 27::zq [8,9] 10 28::zq [8,10] 11 29::zq [11] 12 30::⟨[12],[0],[13],[(.slot 31)]⟩::zq [12] 14 32::zq [12] 15 33::zq [12,14,15] 16 34::zq [12,13,16] 17 35::zq [12,17] 18 36::zq [18] 19 37::⟨[19],[2],[20],[(.slot 38)]⟩::zq [19] 21 39::⟨[19],[21],[22],[(.slot 40)]⟩::zq [19,20,22] 23 41::zq [19,23] 24 42::zq [24] 25 43::zq [25,4] 26 44::zq [25,26] 27 45::zq [25,27] 28 46::zq [28] 29 47::zq [29] 30 48::zq [29] 31 49::zq [29] 32 50::zq [32] 33 0::[]) [(_,_)] rfl ⟨z1 rfl,z4 rfl rfl,z8 hg4_2 rfl,zr' rfl (oM rfl),zr' rfl (oB rfl rfl),z3 true rfl,z8 hg4_6 rfl,zr' rfl (op_move_take _ _ _ _ rfl),zr' rfl (op_build _ _ _ _ [1, 1, 1] _ _ underlying40 zr40 (fs40 _ underlying40) (.copy _ Src.nil) rfl rfl rfl),zr' rfl (op_build _ _ _ _ [1, 1, 1] _ _ underlying40 zr40 (fs40 _ underlying40) (.copy _ (.copy _ Src.nil)) rfl rfl rfl),zr' rfl (op_buildSlice _ _ 3 (.agg #[.int .u8 0, .int .i64 0, .int .i64 0]) (List.flatten (List.map T_Tok.enc [(T_Tok.mk 97 0 0), (T_Tok.mk 0 4 1)])) [(0, .agg #[.int .u8 97, .int .i64 0, .int .i64 0]), (1, .agg #[.int .u8 0, .int .i64 4, .int .i64 1])] underlying23 sz40 zr40 (fun _ V w o a hv hes => by have e0 := agg_v (ys := [.int .u8 97, .int .i64 0, .int .i64 0]) hv hes (x := .tmp 32) rfl; have e1 := agg_v (ys := [.int .u8 0, .int .i64 4, .int .i64 1]) hv hes (x := .tmp 33) rfl; simp only [List.map_toArray, List.map_cons, List.map_nil, e0, e1]; try rfl) (litfill (by simp [Instr.fill, Value.cells]; rfl) (by simp [List.range, List.range.loop, T_Tok.enc] <;> rfl)) (by simp [Value.oneCell', T_Tok.enc]) rfl (by decide) (by decide) (by decide)),zr' rfl (op_call _ _ 20 _ _ rfl call20 rfl (ok_wherrykeep_Toks v1.1 [(T_Tok.mk 97 0 0), (T_Tok.mk 0 4 1)] _ hv4) rfl rfl),z3 true rfl,z8 hg4_13 rfl,zr' rfl (op_move_take _ _ _ _ rfl),zr' rfl (op_buildSlice _ _ 1 (.int .u8 0) (List.map (Value.int .u8) [97, 97, 97, 97, 97]) [(0, .int .u8 97), (1, .int .u8 97), (2, .int .u8 97), (3, .int .u8 97), (4, .int .u8 97)] underlying22 sz5 zr5 (fun _ V w o a hv hes => by simp only [List.map_toArray, List.map_cons, List.map_nil]; try rfl) (litfill (by simp [Instr.fill, Value.cells]; rfl) (by simp [List.range, List.range.loop] <;> rfl)) (by simp [Value.oneCell']) rfl (by decide) (by decide) (by decide)),zr' rfl (op_conv_mark _ _ _ underlying22 underlying5 (by intro h; cases h)),zr' rfl (op_call _ _ 21 _ _ rfl call21 rfl (ok_wherrykeep_Bytes v2.1 [97, 97, 97, 97, 97] _ hv5) rfl rfl),z3 true rfl,z8 hg4_19 rfl,zr' rfl (oM rfl),zr' rfl (oB rfl rfl),z3 true rfl,z8 hg4_23 rfl,zt rfl,zt rfl,z3 false rfl,z2 rfl,zz⟩ ?_
        exact hl8 _ (Option.some.inj h).symm
      ·refine zg hn (_::_::_::_::_::_::(24,vi v1.2)::(25,vb (v1.2 == 0))::(26,vb true)::(27,vi v2.2)::(28,vb (v2.2 == 0))::(29,vb (v2.2 == 0))::(30,vb true)::(31,.fl (.own 40) 3 (List.flatten (List.map T_Tok.enc v1.1)))::(32,.agg [.v (.int .u8 97),vi 0,vi 0])::(33,.agg [.v (.int .u8 0),vi 4,vi 1])::(34,.fl (.own 40) 3 (List.flatten (List.map T_Tok.enc [(T_Tok.mk 97 0 0),(T_Tok.mk 0 4 1)])))::(35,vb v4)::(36,vb v4)::(37,vb true)::(38,.fl (.own 5) 1 (List.map (Value.int .u8) v2.1))::(39,.fl (.own 5) 1 (List.map (Value.int .u8) [97,97,97,97,97]))::(40,.fl .ro 1 (List.map (Value.int .u8) [97,97,97,97,97]))::(41,vb v5)::(42,vb v5)::(43,vb false)::(44,.v undef)::(45,.v undef)::(46,vb false)::(47,vb false)::(48,.v undef)::(49,.v undef)::(50,vb false)::(0,vb false)::[]) [0,1,2,3,4,5] [33] (zq [1] 6 24::zq [6] 7 25::zq [7] 8 26::zq [8,3] 9 27::zq [8,9] 10 28::zq [8,10] 11 29::zq [11] 12 30::⟨[12],[0],[13],[(.slot 31)]⟩::zq [12] 14 32::zq [12] 15 33::zq [12,14,15] 16 34::zq [12,13,16] 17 35::zq [12,17] 18 36::zq [18] 19 37::⟨[19],[2],[20],[(.slot 38)]⟩::zq [19] 21 39::⟨[19],[21],[22],[(.slot 40)]⟩::zq [19,20,22] 23 41::zq [19,23] 24 42::zq [24] 25 43::zq [25] 26 44::zq [25] 27 45::zq [25] 28 46::zq [28] 29 47::zq [29] 30 48::zq [29] 31 49::zq [29] 32 50::zq [32] 33 0::[]) [(_,_)] rfl ⟨z1 rfl,z4 rfl rfl,z8 hg4_2 rfl,zr' rfl (oM rfl),zr' rfl (oB rfl rfl),z3 true rfl,z8 hg4_6 rfl,zr' rfl (op_move_take _ _ _ _ rfl),zr' rfl (op_build _ _ _ _ [1, 1, 1] _ _ underlying40 zr40 (fs40 _ underlying40) (.copy _ Src.nil) rfl rfl rfl),zr' rfl (op_build _ _ _ _ [1, 1, 1] _ _ underlying40 zr40 (fs40 _ underlying40) (.copy _ (.copy _ Src.nil)) rfl rfl rfl),zr' rfl (op_buildSlice _ _ 3 (.agg #[.int .u8 0, .int .i64 0, .int .i64 0]) (List.flatten (List.map T_Tok.enc [(T_Tok.mk 97 0 0), (T_Tok.mk 0 4 1)])) [(0, .agg #[.int .u8 97, .int .i64 0, .int .i64 0]), (1, .agg #[.int .u8 0, .int .i64 4, .int .i64 1])] underlying23 sz40 zr40 (fun _ V w o a hv hes => by have e0 := agg_v (ys := [.int .u8 97, .int .i64 0, .int .i64 0]) hv hes (x := .tmp 32) rfl; have e1 := agg_v (ys := [.int .u8 0, .int .i64 4, .int .i64 1]) hv hes (x := .tmp 33) rfl; simp only [List.map_toArray, List.map_cons, List.map_nil, e0, e1]; try rfl) (litfill (by simp [Instr.fill, Value.cells]; rfl) (by simp [List.range, List.range.loop, T_Tok.enc] <;> rfl)) (by simp [Value.oneCell', T_Tok.enc]) rfl (by decide) (by decide) (by decide)),zr' rfl (op_call _ _ 20 _ _ rfl call20 rfl (ok_wherrykeep_Toks v1.1 [(T_Tok.mk 97 0 0), (T_Tok.mk 0 4 1)] _ hv4) rfl rfl),z3 true rfl,z8 hg4_13 rfl,zr' rfl (op_move_take _ _ _ _ rfl),zr' rfl (op_buildSlice _ _ 1 (.int .u8 0) (List.map (Value.int .u8) [97, 97, 97, 97, 97]) [(0, .int .u8 97), (1, .int .u8 97), (2, .int .u8 97), (3, .int .u8 97), (4, .int .u8 97)] underlying22 sz5 zr5 (fun _ V w o a hv hes => by simp only [List.map_toArray, List.map_cons, List.map_nil]; try rfl) (litfill (by simp [Instr.fill, Value.cells]; rfl) (by simp [List.range, List.range.loop] <;> rfl)) (by simp [Value.oneCell']) rfl (by decide) (by decide) (by decide)),zr' rfl (op_conv_mark _ _ _ underlying22 underlying5 (by intro h; cases h)),zr' rfl (op_call _ _ 21 _ _ rfl call21 rfl (ok_wherrykeep_Bytes v2.1 [97, 97, 97, 97, 97] _ hv5) rfl rfl),z3 true rfl,z8 hg4_19 rfl,zt rfl,zt rfl,z3 false rfl,z1 rfl,zt rfl,zt rfl,z3 false rfl,z2 rfl,zz⟩ ?_
       exact hl8 _ (Option.some.inj h).symm
     ·refine zg hn (_::_::_::_::_::_::(24,vi v1.2)::(25,vb (v1.2 == 0))::(26,vb true)::(27,vi v2.2)::(28,vb (v2.2 == 0))::(29,vb (v2.2 == 0))::(30,vb true)::(31,.fl (.own 40) 3 (List.flatten (List.map T_Tok.enc v1.1)))::(32,.agg [.v (.int .u8 97),vi 0,vi 0])::(33,.agg [.v (.int .u8 0),vi 4,vi 1])::(34,.fl (.own 40) 3 (List.flatten (List.map T_Tok.enc [(T_Tok.mk 97 0 0),(T_Tok.mk 0 4 1)])))::(35,vb v4)::(36,vb v4)::(37,vb false)::(38,.v undef)::(39,.v undef)::(40,.v undef)::(41,.v undef)::(42,vb false)::(43,vb false)::(44,.v undef)::(45,.v undef)::(46,vb false)::(47,vb false)::(48,.v undef)::(49,.v undef)::(50,vb false)::(0,vb false)::[]) [0,1,2,3,4,5] [33] (zq [1] 6 24::zq [6] 7 25::zq [7] 8 26::zq [8,3] 9 27::zq [8,9] 10 28::zq [8,10] 11 29::zq [11] 12 30::⟨[12],[0],[13],[(.slot 31)]⟩::zq [12] 14 32::zq [12] 15 33::zq [12,14,15] 16 34::zq [12,13,16] 17 35::zq [12,17] 18 36::zq [18] 19 37::zq [19] 20 38::zq [19] 21 39::zq [19] 22 40::zq [19] 23 41::zq [19] 24 42::zq [24] 25 43::zq [25] 26 44::zq [25] 27 45::zq [25] 28 46::zq [28] 29 47::zq [29] 30 48::zq [29] 31 49::zq [29] 32 50::zq [32] 33 0::[]) [(_,_)] rfl ⟨z1 rfl,z4 rfl rfl,z8 hg4_2 rfl,zr' rfl (oM rfl),zr' rfl (oB rfl rfl),z3 true rfl,z8 hg4_6 rfl,zr' rfl (op_move_take _ _ _ _ rfl),zr' rfl (op_build _ _ _ _ [1, 1, 1] _ _ underlying40 zr40 (fs40 _ underlying40) (.copy _ Src.nil) rfl rfl rfl),zr' rfl (op_build _ _ _ _ [1, 1, 1] _ _ underlying40 zr40 (fs40 _ underlying40) (.copy _ (.copy _ Src.nil)) rfl rfl rfl),zr' rfl (op_buildSlice _ _ 3 (.agg #[.int .u8 0, .int .i64 0, .int .i64 0]) (List.flatten (List.map T_Tok.enc [(T_Tok.mk 97 0 0), (T_Tok.mk 0 4 1)])) [(0, .agg #[.int .u8 97, .int .i64 0, .int .i64 0]), (1, .agg #[.int .u8 0, .int .i64 4, .int .i64 1])] underlying23 sz40 zr40 (fun _ V w o a hv hes => by have e0 := agg_v (ys := [.int .u8 97, .int .i64 0, .int .i64 0]) hv hes (x := .tmp 32) rfl; have e1 := agg_v (ys := [.int .u8 0, .int .i64 4, .int .i64 1]) hv hes (x := .tmp 33) rfl; simp only [List.map_toArray, List.map_cons, List.map_nil, e0, e1]; try rfl) (litfill (by simp [Instr.fill, Value.cells]; rfl) (by simp [List.range, List.range.loop, T_Tok.enc] <;> rfl)) (by simp [Value.oneCell', T_Tok.enc]) rfl (by decide) (by decide) (by decide)),zr' rfl (op_call _ _ 20 _ _ rfl call20 rfl (ok_wherrykeep_Toks v1.1 [(T_Tok.mk 97 0 0), (T_Tok.mk 0 4 1)] _ hv4) rfl rfl),z3 true rfl,z8 hg4_13 rfl,zt rfl,zt rfl,zt rfl,zt rfl,z3 false rfl,z1 rfl,zt rfl,zt rfl,z3 false rfl,z1 rfl,zt rfl,zt rfl,z3 false rfl,z2 rfl,zz⟩ ?_
      exact hl8 _ (Option.some.inj h).symm
    ·refine zg hn (_::_::_::_::_::_::(24,vi v1.2)::(25,vb (v1.2 == 0))::(26,vb true)::(27,vi v2.2)::(28,vb (v2.2 == 0))::(29,vb (v2.2 == 0))::(30,vb false)::(31,.v undef)::(32,.v undef)::(33,.v undef)::(34,.v undef)::(35,.v undef)::(36,vb false)::(37,vb false)::(38,.v undef)::(39,.v undef)::(40,.v undef)::(41,.v undef)::(42,vb false)::(43,vb false)::(44,.v undef)::(45,.v undef)::(46,vb false)::(47,vb false)::(48,.v undef)::(49,.v undef)::(50,vb false)::(0,vb false)::[]) [0,1,2,3,4,5] [33] (zq [1] 6 24::zq [6] 7 25::zq [7] 8 26::zq [8,3] 9 27::zq [8,9] 10 28::zq [8,10] 11 29::zq [11] 12 30::zq [12] 13 31::zq [12] 14 32::zq [12] 15 33::zq [12] 16 34::zq [12] 17 35::zq [12] 18 36::zq [18] 19 37::zq [19] 20 38::zq [19] 21 39::zq [19] 22 40::zq [19] 23 41::zq [19] 24 42::zq [24] 25 43::zq [25] 26 44::zq [25] 27 45::zq [25] 28 46::zq [28] 29 47::zq [29] 30 48::zq [29] 31 49::zq [29] 32 50::zq [32] 33 0::[]) [(_,_)] rfl ⟨z1 rfl,z4 rfl rfl,z8 hg4_2 rfl,zr' rfl (oM rfl),zr' rfl (oB rfl rfl),z3 true rfl,z8 hg4_6 rfl,zt rfl,zt rfl,zt rfl,zt rfl,zt rfl,z3 false rfl,z1 rfl,zt rfl,zt rfl,zt rfl,zt rfl,z3 false rfl,z1 rfl,zt rfl,zt rfl,z3 false rfl,z1 rfl,zt rfl,zt rfl,z3 false rfl,z2 rfl,zz⟩ ?_
     exact hl8 _ (Option.some.inj h).symm
   ·refine zg hn (_::_::_::_::_::_::(24,vi v1.2)::(25,vb (v1.2 == 0))::(26,vb false)::(27,.v undef)::(28,.v undef)::(29,vb false)::(30,vb false)::(31,.v undef)::(32,.v undef)::(33,.v undef)::(34,.v undef)::(35,.v undef)::(36,vb false)::(37,vb false)::(38,.v undef)::(39,.v undef)::(40,.v undef)::(41,.v undef)::(42,vb false)::(43,vb false)::(44,.v undef)::(45,.v undef)::(46,vb false)::(47,vb false)::(48,.v undef)::(49,.v undef)::(50,vb false)::(0,vb false)::[]) [0,1,2,3,4,5] [33] (zq [1] 6 24::zq [6] 7 25::zq [7] 8 26::zq [8] 9 27::zq [8] 10 28::zq [8] 11 29::zq [11] 12 30::zq [12] 13 31::zq [12] 14 32::zq [12] 15 33::zq [12] 16 34::zq [12] 17 35::zq [12] 18 36::zq [18] 19 37::zq [19] 20 38::zq [19] 21 39::zq [19] 22 40::zq [19] 23 41::zq [19] 24 42::zq [24] 25 43::zq [25] 26 44::zq [25] 27 45::zq [25] 28 46::zq [28] 29 47::zq [29] 30 48::zq [29] 31 49::zq [29] 32 50::zq [32] 33 0::[]) [(_,_)] rfl ⟨z1 rfl,z4 rfl rfl,z8 hg4_2 rfl,zt rfl,zt rfl,z3 false rfl,z1 rfl,zt rfl,zt rfl,zt rfl,zt rfl,zt rfl,z3 false rfl,z1 rfl,zt rfl,zt rfl,zt rfl,zt rfl,z3 false rfl,z1 rfl,zt rfl,zt rfl,z3 false rfl,z1 rfl,zt rfl,zt rfl,z3 false rfl,z2 rfl,zz⟩ ?_
    exact hl8 _ (Option.some.inj h).symm
theorem ok_wherrykeep_Twin (l : (List Int)) (r : (List Int)) (h : Sh.wherrykeep_Twin l = some r) : FnOK Try.prog 12 [.fl .shr 1 (List.map (Value.int .u8) l)] (.fl (.own 5) 1 (List.map (Value.int .u8) r)) := by
  unfold Sh.wherrykeep_Twin at h
  refine fn_ok func12 rfl (zl rfl) rfl rfl fun g0 hn hio => ?_
  refine zgg hn [_,(2,.v (.slice none 0 0))] [0] [0] [zq [] 1 2] [(_,_)] rfl ⟨z2 rfl,zz⟩ ?_
  refine zgg hn [_,(3,.v (.slice none 0 0))] [0] [0,1] [zq [] 1 3] [(_,_),(_,_)] rfl ⟨z2 rfl,zz⟩ ?_
  refine ht_seq ?_
  obtain ⟨v1, hv1, h⟩ := bind_some h
  refine zg hn [_,_,(4,.v (.slice none 0 0)),(5,.fl .shr 1 (List.map (Value.int .u8) l)),(6,.fl (.own 5) 1 (List.map (Value.int .u8) v1)),(2,.fl (.own 5) 1 (List.map (Value.int .u8) v1))] [0,1] [5] [zq [1] 2 4,zq [0] 3 5,zq [2,3] 4 6,⟨[],[4],[5],[(.slot 2)]⟩] [(_,_)] rfl ⟨z1 rfl,z1 rfl,zp rfl (op_app_nil _ _ _ _ el22 rfl rfl (map_len _) hv1 (congrArg (List.map _) (app_nil_eq hv1))),zp rfl (op_assign_take _ _ _ _ rfl),zz⟩ ?_
  refine pt_then (ht_ret ?_)
  obtain rfl := Option.some.inj h
  exact pt_ret hio rfl (.tmp _ _ .nil) rfl rfl
theorem ok_wherryref01_CheckToks (l : (List T_Tok)) (r : Int) (h : Sh.wherryref01_CheckToks l = some r) : FnOK Try.prog 23 [.fl .shr 3 (List.flatten (List.map T_Tok.enc l))] (.v (.int .i64 r)) := by
  unfold Sh.wherryref01_CheckToks at h
  refine fn_ok func23 rfl (zl rfl) rfl rfl fun g0 hn hio => ?_
  refine zgg hn [_,(2,vi 0)] [0] [0] [zq [] 1 2] [(_,_)] rfl ⟨z2 rfl,zz⟩ ?_
  refine zgg hn [_,(3,vi 0)] [0] [0,1] [zq [] 1 3] [(_,_),(_,_)] rfl ⟨z2 rfl,zz⟩ ?_
  refine zgg hn [_,_,(4,vb false)] [0,1] [0,1,2] [zq [] 2 4] [(_,_),(_,_),(_,_)] rfl ⟨z2 rfl,zz⟩ ?_
  refine ht_seq ?_
  refine zgg hn [_,_,_,(5,vi 0)] [0,1,2] [0,1,2,3] [zq [] 3 5] [(_,_),(_,_),(_,_),(_,_)] rfl ⟨z2 rfl,zz⟩ ?_
  refine ht_loopS h (fun ((s78, s79, s80) : Int × Bool × Int) => [(0, .fl .shr 3 (List.flatten (List.map T_Tok.enc l))), (3, .v (.int .i64 s78)), (4, .v (.bool s79)), (5, .v (.int .i64 s80))]) (fun (s110 : Bool) => [(4, .v (.bool s110))]) ?_ ?_
  ·rintro s110 h
   refine pt_then (ht_seq ?_)
   refine zgg hn [_,(75,vb s110)] [0] [1] [zq [0] 1 75] [(_,_)] rfl ⟨z1 rfl,zz⟩ ?_
   refine ht_cond _ rfl (fun hb146 => ?_) (fun hb146 => ?_)
   ·have h := cond_t hb146 h
    refine zgg hn [_,(2,vi 2)] [0] [1] [zq [] 1 2] [(_,_)] rfl ⟨z2 rfl,zz⟩ ?_
    refine ht_ret ?_
    refine pt_r_then ?_
    obtain rfl := Option.some.inj h
    exact pt_ret hio rfl (.tmp _ _ .nil) rfl rfl
   ·have h := cond_f hb146 h
    refine ht_skip ?_
    refine pt_then ?_
    refine zgg hn [_,(2,vi 0)] [0] [1] [zq [] 1 2] [(_,_)] rfl ⟨z2 rfl,zz⟩ ?_
    refine ht_ret ?_
    obtain rfl := Option.some.inj h
    exact pt_ret hio rfl (.tmp _ _ .nil) rfl rfl
  ·rintro u111 hl112 hr113 ⟨s78, s79, s80⟩ rr116 h ho114
   refine ht_seq ?_
   refine zgg hn [_,_,_,_,(6,vi s80),(7,.fl .shr 3 (List.flatten (List.map T_Tok.enc l))),(8,vi (l.length : Int)),(9,vb (decide (s80 < (l.length : Int))))] [0,1,2,3] [0,1,2,3,7] [zq [3] 4 6,zq [0] 5 7,zq [5] 6 8,zq [4,6] 7 9] [(_,_),(_,_),(_,_),(_,_),(_,_)] rfl ⟨z1 rfl,z1 rfl,zp rfl (op_len_fl _ _ _ underlying23 rfl (by decide) (flat_len T_Tok.len _)),z4 rfl rfl,zz⟩ ?_
   refine ht_cond _ rfl (fun hb117 => ?_) (fun hb117 => ?_)
   ·have h := cond_t hb117 h
    refine ht_skip ?_
    refine pt_then (ht_seq ?_)
    refine ht_block ?_
    refine ht_seq ?_
    refine ht_joinS h (fun (s128 : Int) => [(0, .fl .shr 3 (List.flatten (List.map T_Tok.enc l))), (4, .v (.bool s79)), (5, .v (.int .i64 s80)), (3, .v (.int .i64 s128))]) ?_ ?_
    ·rintro s128 h
     refine pt_then (ht_seq ?_)
     refine ht_joinS h (fun (s142 : Bool) => [(0, .fl .shr 3 (List.flatten (List.map T_Tok.enc l))), (5, .v (.int .i64 s80)), (3, .v (.int .i64 s128)), (4, .v (.bool s142))]) ?_ ?_
     ·rintro s142 h
      refine pt_then ?_
      obtain ⟨v44, hv44, h⟩ := bind_some h
      refine zg hn [_,_,_,_,(73,vi s128),(74,vi v44),(3,vi v44)] [0,1,2,3] [0,1,3,6] [zq [2] 4 73,zq [4] 5 74,⟨[5],[2],[6],[(.slot 3)]⟩] [(_,_),(_,_),(_,_),(_,_)] rfl ⟨z1 rfl,zp rfl ((Option.some.inj hv44) ▸ op_min _ _ _ _ rfl rfl),zp rfl (LOp.drop [_] (op_assign _ _ _ _ rfl rfl)),zz⟩ ?_
      refine pt_inb ?_
      refine pt_then ?_
      obtain ⟨v45, hv45, h⟩ := bind_some h
      refine zg hn [_,_,_,_,(10,vi s80),(11,vi v45),(5,vi v45)] [0,1,2,3] [0,2,3,6] [zq [1] 4 10,zq [4] 5 11,⟨[5],[1],[6],[(.slot 5)]⟩] [(_,_),(_,_),(_,_),(_,_)] rfl ⟨z1 rfl,zp rfl (oB rfl (ibind (f := Value.int .i64) (Option.some.inj hv45))),zp rfl (LOp.drop [_] (op_assign _ _ _ _ rfl rfl)),zz⟩ ?_
      refine pt_pick [0, 2, 1, 3] (by kernel_rfl) (es' := [(_,_),(_,_),(_,_),(_,_)]) rfl ?_
      exact pt_next _ (Option.some.inj h).symm rfl
     ·intro u143 h hl144 hr145
      refine cond_some h (fun hg11_1 h => ?_) (fun hg11_1 h => ?_)
      ·refine zg hn [_,_,_,_,(68,vb s79),(69,vb true),(70,.v undef),(71,.v undef),(72,vb true),(4,vb true)] [0,1,2,3] [0,2,3,9] [zq [1] 4 68,zq [4] 5 69,zq [5] 6 70,zq [5] 7 71,zq [5] 8 72,⟨[8],[1],[9],[(.slot 4)]⟩] [(_,_),(_,_),(_,_),(_,_)] rfl ⟨z1 rfl,z8 hg11_1 rfl,zf rfl,zf rfl,z3 true rfl,zp rfl (LOp.drop [_] (op_assign _ _ _ _ rfl rfl)),zz⟩ ?_
       exact hl144 _ (Option.some.inj h).symm
      ·refine zg hn [_,_,_,_,(68,vb s79),(69,vb false),(70,vi s128),(71,vb (decide (4096 < s128))),(72,vb (decide (4096 < s128))),(4,vb (decide (4096 < s128)))] [0,1,2,3] [0,2,3,9] [zq [1] 4 68,zq [4] 5 69,zq [5,3] 6 70,zq [5,6] 7 71,zq [5,7] 8 72,⟨[8],[1],[9],[(.slot 4)]⟩] [(_,_),(_,_),(_,_),(_,_)] rfl ⟨z1 rfl,z8 hg11_1 rfl,zr' rfl (oM rfl),zr' rfl (oB rfl rfl),z3 false rfl,zp rfl (LOp.drop [_] (op_assign _ _ _ _ rfl rfl)),zz⟩ ?_
       exact hl144 _ (Option.some.inj h).symm
    ·intro u129 h hl130 hr131
     refine ht_seq ?_
     refine ht_joinS h (fun (s132 : Bool) => [(0, .fl .shr 3 (List.flatten (List.map T_Tok.enc l))), (3, .v (.int .i64 s78)), (4, .v (.bool s79)), (5, .v (.int .i64 s80)), (25, .v (.bool s132))]) ?_ ?_
     ·rintro s132 h
      refine pt_then ?_
      refine ht_cond _ rfl (fun hb136 => ?_) (fun hb136 => ?_)
      ·have h := cond_t hb136 h
       obtain ⟨v11, hv11, h⟩ := bind_some h
       refine zg hn [_,_,_,_,_,(26,vi s78),(27,vi v11),(3,vi v11)] [0,1,2,3,4] [0,2,3,7] [zq [1] 5 26,zq [5] 6 27,⟨[6],[1],[7],[(.slot 3)]⟩] [(_,_),(_,_),(_,_),(_,_)] rfl ⟨z1 rfl,zp rfl (oB rfl (ibind (f := Value.int .i64) (Option.some.inj hv11))),zp rfl (LOp.drop [_] (op_assign _ _ _ _ rfl rfl)),zz⟩ ?_
       exact hl130 _ (Option.some.inj h).symm
      ·have h := cond_f hb136 h
       refine ht_seq ?_
       refine ht_seq ?_
       refine ht_joinS h (fun (s137 : Bool) => [(0, .fl .shr 3 (List.flatten (List.map T_Tok.enc l))), (3, .v (.int .i64 s78)), (4, .v (.bool s79)), (5, .v (.int .i64 s80)), (60, .v (.bool s137))]) ?_ ?_
       ·rintro s137 h
        refine pt_then ?_
        refine ht_cond _ rfl (fun hb141 => ?_) (fun hb141 => ?_)
        ·have h := cond_t hb141 h
         refine zgg hn [_,_,_,_,_,(2,vi 1)] [0,1,2,3,4] [5] [zq [] 5 2] [(_,_)] rfl ⟨z2 rfl,zz⟩ ?_
         refine ht_ret ?_
         refine pt_r_then ?_
         refine pt_r_then ?_
         refine pt_r_in ?_
         refine pt_r_then ?_
         refine pt_r_then ?_
         refine pt_r_in ?_
         refine pt_r_then ?_
         have h := hr131 _ (Option.some.inj h).symm
         have h := hr113 _ (ho114 _ (Option.some.inj h).symm).symm
         obtain rfl := Option.some.inj h
         exact pt_ret hio rfl (.tmp _ _ .nil) rfl rfl
        ·have h := cond_f hb141 h
         refine ht_skip ?_
         refine pt_then ?_
         obtain ⟨v27, hv27, h⟩ := bind_some h
         obtain ⟨v28, hv28, h⟩ := bind_some h
         obtain ⟨v29, hv29, h⟩ := bind_some h
         refine zg hn [_,_,_,_,_,(61,vi s78),(62,.fl .shr 3 (List.flatten (List.map T_Tok.enc l))),(63,vi s80),(64,.eref (.slot 62) (v27 * 3)),(65,.eref (.slot 62) (v27 * 3 + 1)),(66,vi v28.Len),(67,vi v29),(3,vi v29)] [0,1,2,3,4] [0,2,3,12] [zq [1] 5 61,zq [0] 6 62,zq [3] 7 63,zq [6,7] 8 64,zq [8,6] 9 65,zq [9,6] 10 66,zq [5,10] 11 67,⟨[11],[1],[12],[(.slot 3)]⟩] [(_,_),(_,_),(_,_),(_,_)] rfl ⟨z1 rfl,z1 rfl,z1 rfl,zp rfl (op_ix _ _ _ _ _ _ _ _ underlying23 sz40 (by decide) rfl rfl rfl (ix_ok hv27).1 (flat_lt T_Tok.len (ix_ok hv27).2) rfl),zp rfl (op_fieldAddr_e _ _ _ _ _ _ _ underlying40 rfl sz3 rfl rfl rfl),zp rfl (op_load_e _ _ _ _ _ _ underlying3 rfl rfl rfl (flat_cell T_Tok.len hv28 rfl)),zp rfl (oB rfl (ibind (f := Value.int .i64) (Option.some.inj hv29))),zp rfl (LOp.drop [_] (op_assign _ _ _ _ rfl rfl)),zz⟩ ?_
         exact hl130 _ (Option.some.inj h).symm
       ·intro u138 h hl139 hr140
        obtain ⟨v12, hv12, h⟩ := bind_some h
        obtain ⟨v13, hv13, h⟩ := bind_some h
        refine cond_some h (fun hg8_6 h => ?_) (fun hg8_6 h => ?_)
        ·refine zg hn (_::_::_::_::_::(28,.fl .shr 3 (List.flatten (List.map T_Tok.enc l)))::(29,vi s80)::(30,.eref (.slot 28) (v12 * 3))::(31,.eref (.slot 28) (v12 * 3 + 0))::(32,.v (.int .u8 v13.Byte))::(33,vb (v13.Byte != 0))::(34,vb true)::(35,.v undef)::(36,.v undef)::(37,.v undef)::(38,.v undef)::(39,.v undef)::(40,.v undef)::(41,.v undef)::(42,vb true)::(43,vb true)::(44,.v undef)::(45,.v undef)::(46,.v undef)::(47,.v undef)::(48,.v undef)::(49,.v undef)::(50,.v undef)::(51,vb true)::(52,vb true)::(53,.v undef)::(54,.v undef)::(55,.v undef)::(56,.v undef)::(57,.v undef)::(58,.v undef)::(59,.v undef)::(60,vb true)::[]) [0,1,2,3,4] [0,1,2,3,37] (zq [0] 5 28::zq [3] 6 29::zq [5,6] 7 30::zq [7,5] 8 31::zq [8,5] 9 32::zq [9] 10 33::zq [10] 11 34::zq [11] 12 35::zq [11] 13 36::zq [11] 14 37::zq [11] 15 38::zq [11] 16 39::zq [11] 17 40::zq [11] 18 41::zq [11] 19 42::zq [19] 20 43::zq [20] 21 44::zq [20] 22 45::zq [20] 23 46::zq [20] 24 47::zq [20] 25 48::zq [20] 26 49::zq [20] 27 50::zq [20] 28 51::zq [28] 29 52::zq [29] 30 53::zq [29] 31 54::zq [29] 32 55::zq [29] 33 56::zq [29] 34 57::zq [29] 35 58::zq [29] 36 59::zq [29] 37 60::[]) [(_,_),(_,_),(_,_),(_,_),(_,_)] rfl ⟨z1 rfl,z1 rfl,zp rfl (op_ix _ _ _ _ _ _ _ _ underlying23 sz40 (by decide) rfl rfl rfl (ix_ok hv12).1 (flat_lt T_Tok.len (ix_ok hv12).2) rfl),zp rfl (op_fieldAddr_e _ _ _ _ _ _ _ underlying40 rfl sz5 rfl rfl rfl),zp rfl (op_load_e _ _ _ _ _ _ underlying5 rfl rfl rfl (flat_cell T_Tok.len hv13 rfl)),z4 rfl rfl,z8 hg8_6 rfl,zf rfl,zf rfl,zf rfl,zf rfl,zf rfl,zf rfl,zf rfl,z3 true rfl,z1 rfl,zf rfl,zf rfl,zf rfl,zf rfl,zf rfl,zf rfl,zf rfl,z3 true rfl,z1 rfl,zf rfl,zf rfl,zf rfl,zf rfl,zf rfl,zf rfl,zf rfl,z3 true rfl,zz⟩ ?_
         exact hl139 _ (Option.some.inj h).symm
        ·obtain ⟨v14, hv14, h⟩ := bind_some h
         obtain ⟨v15, hv15, h⟩ := bind_some h
         obtain ⟨v16, hv16, h⟩ := bind_some h
         refine cond_some h (fun hg8_15 h => ?_) (fun hg8_15 h => ?_)
         ·refine zg hn (_::_::_::_::_::(28,.fl .shr 3 (List.flatten (List.map T_Tok.enc l)))::(29,vi s80)::(30,.eref (.slot 28) (v12 * 3))::(31,.eref (.slot 28) (v12 * 3 + 0))::(32,.v (.int .u8 v13.Byte))::(33,vb (v13.Byte != 0))::(34,vb false)::(35,.fl .shr 3 (List.flatten (List.map T_Tok.enc l)))::(36,vi s80)::(37,.eref (.slot 35) (v14 * 3))::(38,.eref (.slot 35) (v14 * 3 + 1))::(39,vi v15.Len)::(40,vb v16)::(41,vb (!v16))::(42,vb (!v16))::(43,vb true)::(44,.v undef)::(45,.v undef)::(46,.v undef)::(47,.v undef)::(48,.v undef)::(49,.v undef)::(50,.v undef)::(51,vb true)::(52,vb true)::(53,.v undef)::(54,.v undef)::(55,.v undef)::(56,.v undef)::(57,.v undef)::(58,.v undef)::(59,.v undef)::(60,vb true)::[]) [0,1,2,3,4] [0,1,2,3,37] (zq [0] 5 28::zq [3] 6 29::zq [5,6] 7 30::zq [7,5] 8 31::zq [8,5] 9 32::zq [9] 10 33::zq [10] 11 34::zq [11,0] 12 35::zq [11,3] 13 36::zq [11,12,13] 14 37::zq [11,14,12] 15 38::zq [11,15,12] 16 39::zq [11,16] 17 40::zq [11,17] 18 41::zq [11,18] 19 42::zq [19] 20 43::zq [20] 21 44::zq [20] 22 45::zq [20] 23 46::zq [20] 24 47::zq [20] 25 48::zq [20] 26 49::zq [20] 27 50::zq [20] 28 51::zq [28] 29 52::zq [29] 30 53::zq [29] 31 54::zq [29] 32 55::zq [29] 33 56::zq [29] 34 57::zq [29] 35 58::zq [29] 36 59::zq [29] 37 60::[]) [(_,_),(_,_),(_,_),(_,_),(_,_)] rfl ⟨z1 rfl,z1 rfl,zp rfl (op_ix _ _ _ _ _ _ _ _ underlying23 sz40 (by decide) rfl rfl rfl (ix_ok hv12).1 (flat_lt T_Tok.len (ix_ok hv12).2) rfl),zp rfl (op_fieldAddr_e _ _ _ _ _ _ _ underlying40 rfl sz5 rfl rfl rfl),zp rfl (op_load_e _ _ _ _ _ _ underlying5 rfl rfl rfl (flat_cell T_Tok.len hv13 rfl)),z4 rfl rfl,z8 hg8_6 rfl,zr' rfl (oM rfl),zr' rfl (oM rfl),zr' rfl (op_ix _ _ _ _ _ _ _ _ underlying23 sz40 (by decide) rfl rfl rfl (ix_ok hv14).1 (flat_lt T_Tok.len (ix_ok hv14).2) rfl),zr' rfl (op_fieldAddr_e _ _ _ _ _ _ _ underlying40 rfl sz3 rfl rfl rfl),zr' rfl (op_load_e _ _ _ _ _ _ underlying3 rfl rfl rfl (flat_cell T_Tok.len hv15 rfl)),zr' rfl (op_call _ _ 32 _ _ rfl call32 rfl (ok_wherryref01_in v15.Len 3 258 _ hv16) rfl rfl),zr' rfl (op_un _ _ _ _ rfl rfl),z3 false rfl,z8 hg8_15 rfl,zf rfl,zf rfl,zf rfl,zf rfl,zf rfl,zf rfl,zf rfl,z3 true rfl,z1 rfl,zf rfl,zf rfl,zf rfl,zf rfl,zf rfl,zf rfl,zf rfl,z3 true rfl,zz⟩ ?_
          exact hl139 _ (Option.some.inj h).symm
         ·obtain ⟨v17, hv17, h⟩ := bind_some h
          obtain ⟨v18, hv18, h⟩ := bind_some h
          obtain ⟨v19, hv19, h⟩ := bind_some h
          refine cond_some h (fun hg8_24 h => ?_) (fun hg8_24 h => ?_)
          ·refine zg hn (_::_::_::_::_::(28,.fl .shr 3 (List.flatten (List.map T_Tok.enc l)))::(29,vi s80)::(30,.eref (.slot 28) (v12 * 3))::(31,.eref (.slot 28) (v12 * 3 + 0))::(32,.v (.int .u8 v13.Byte))::(33,vb (v13.Byte != 0))::(34,vb false)::(35,.fl .shr 3 (List.flatten (List.map T_Tok.enc l)))::(36,vi s80)::(37,.eref (.slot 35) (v14 * 3))::(38,.eref (.slot 35) (v14 * 3 + 1))::(39,vi v15.Len)::(40,vb v16)::(41,vb (!v16))::(42,vb (!v16))::(43,vb false)::(44,.fl .shr 3 (List.flatten (List.map T_Tok.enc l)))::(45,vi s80)::(46,.eref (.slot 44) (v17 * 3))::(47,.eref (.slot 44) (v17 * 3 + 2))::(48,vi v18.Dist)::(49,vb v19)::(50,vb (!v19))::(51,vb (!v19))::(52,vb true)::(53,.v undef)::(54,.v undef)::(55,.v undef)::(56,.v undef)::(57,.v undef)::(58,.v undef)::(59,.v undef)::(60,vb true)::[]) [0,1,2,3,4] [0,1,2,3,37] (zq [0] 5 28::zq [3] 6 29::zq [5,6] 7 30::zq [7,5] 8 31::zq [8,5] 9 32::zq [9] 10 33::zq [10] 11 34::zq [11,0] 12 35::zq [11,3] 13 36::zq [11,12,13] 14 37::zq [11,14,12] 15 38::zq [11,15,12] 16 39::zq [11,16] 17 40::zq [11,17] 18 41::zq [11,18] 19 42::zq [19] 20 43::zq [20,0] 21 44::zq [20,3] 22 45::zq [20,21,22] 23 46::zq [20,23,21] 24 47::zq [20,24,21] 25 48::zq [20,25] 26 49::zq [20,26] 27 50::zq [20,27] 28 51::zq [28] 29 52::zq [29] 30 53::zq [29] 31 54::zq [29] 32 55::zq [29] 33 56::zq [29] 34 57::zq [29] 35 58::zq [29] 36 59::zq [29] 37 60::[]) [(_,_),(_,_),(_,_),(_,_),(_,_)] rfl ⟨z1 rfl,z1 rfl,zp rfl (op_ix _ _ _ _ _ _ _ _ underlying23 sz40 (by decide) rfl rfl rfl (ix_ok hv12).1 (flat_lt T_Tok.len (ix_ok hv12).2) rfl),zp rfl (op_fieldAddr_e _ _ _ _ _ _ _ underlying40 rfl sz5 rfl rfl rfl),zp rfl (op_load_e _ _ _ _ _ _ underlying5 rfl rfl rfl (flat_cell T_Tok.len hv13 rfl)),z4 rfl rfl,z8 hg8_6 rfl,zr' rfl (oM rfl),zr' rfl (oM rfl),zr' rfl (op_ix _ _ _ _ _ _ _ _ underlying23 sz40 (by decide) rfl rfl rfl (ix_ok hv14).1 (flat_lt T_Tok.len (ix_ok hv14).2) rfl),zr' rfl (op_fieldAddr_e _ _ _ _ _ _ _ underlying40 rfl sz3 rfl rfl rfl),zr' rfl (op_load_e _ _ _ _ _ _ underlying3 rfl rfl rfl (flat_cell T_Tok.len hv15 rfl)),zr' rfl (op_call _ _ 32 _ _ rfl call32 rfl (ok_wherryref01_in v15.Len 3 258 _ hv16) rfl rfl),zr' rfl (op_un _ _ _ _ rfl rfl),z3 false rfl,z8 hg8_15 rfl,zr' rfl (oM rfl),zr' rfl (oM rfl),zr' rfl (op_ix _ _ _ _ _ _ _ _ underlying23 sz40 (by decide) rfl rfl rfl (ix_ok hv17).1 (flat_lt T_Tok.len (ix_ok hv17).2) rfl),zr' rfl (op_fieldAddr_e _ _ _ _ _ _ _ underlying40 rfl sz3 rfl rfl rfl),zr' rfl (op_load_e _ _ _ _ _ _ underlying3 rfl rfl rfl (flat_cell T_Tok.len hv18 rfl)),zr' rfl (op_call _ _ 32 _ _ rfl call32 rfl (ok_wherryref01_in v18.Dist 1 2048 _ hv19) rfl rfl),zr' rfl (op_un _ _ _ _ rfl rfl),z3 false rfl,z8 hg8_24 rfl,zf rfl,zf rfl,zf rfl,zf rfl,zf rfl,zf rfl,zf rfl,z3 true rfl,zz⟩ ?_
           exact hl139 _ (Option.some.inj h).symm
          ·obtain ⟨v20, hv20, h⟩ := bind_some h
           obtain ⟨v21, hv21, h⟩ := bind_some h
           refine zg hn (_::_::_::_::_::(28,.fl .shr 3 (List.flatten (List.map T_Tok.enc l)))::(29,vi s80)::(30,.eref (.slot 28) (v12 * 3))::(31,.eref (.slot 28) (v12 * 3 + 0))::(32,.v (.int .u8 v13.Byte))::(33,vb (v13.Byte != 0))::(34,vb false)::(35,.fl .shr 3 (List.flatten (List.map T_Tok.enc l)))::(36,vi s80)::(37,.eref (.slot 35) (v14 * 3))::(38,.eref (.slot 35) (v14 * 3 + 1))::(39,vi v15.Len)::(40,vb v16)::(41,vb (!v16))::(42,vb (!v16))::(43,vb false)::(44,.fl .shr 3 (List.flatten (List.map T_Tok.enc l)))::(45,vi s80)::(46,.eref (.slot 44) (v17 * 3))::(47,.eref (.slot 44) (v17 * 3 + 2))::(48,vi v18.Dist)::(49,vb v19)::(50,vb (!v19))::(51,vb (!v19))::(52,vb false)::(53,.fl .shr 3 (List.flatten (List.map T_Tok.enc l)))::(54,vi s80)::(55,.eref (.slot 53) (v20 * 3))::(56,.eref (.slot 53) (v20 * 3 + 2))::(57,vi v21.Dist)::(58,vi s78)::(59,vb (decide (s78 < v21.Dist)))::(60,vb (decide (s78 < v21.Dist)))::[]) [0,1,2,3,4] [0,1,2,3,37] (zq [0] 5 28::zq [3] 6 29::zq [5,6] 7 30::zq [7,5] 8 31::zq [8,5] 9 32::zq [9] 10 33::zq [10] 11 34::zq [11,0] 12 35::zq [11,3] 13 36::zq [11,12,13] 14 37::zq [11,14,12] 15 38::zq [11,15,12] 16 39::zq [11,16] 17 40::zq [11,17] 18 41::zq [11,18] 19 42::zq [19] 20 43::zq [20,0] 21 44::zq [20,3] 22 45::zq [20,21,22] 23 46::zq [20,23,21] 24 47::zq [20,24,21] 25 48::zq [20,25] 26 49::zq [20,26] 27 50::zq [20,27] 28 51::zq [28] 29 52::zq [29,0] 30 53::zq [29,3] 31 54::zq [29,30,31] 32 55::zq [29,32,30] 33 56::zq [29,33,30] 34 57::zq [29,1] 35 58::zq [29,34,35] 36 59::zq [29,36] 37 60::[]) [(_,_),(_,_),(_,_),(_,_),(_,_)] rfl ⟨z1 rfl,z1 rfl,zp rfl (op_ix _ _ _ _ _ _ _ _ underlying23 sz40 (by decide) rfl rfl rfl (ix_ok hv12).1 (flat_lt T_Tok.len (ix_ok hv12).2) rfl),zp rfl (op_fieldAddr_e _ _ _ _ _ _ _ underlying40 rfl sz5 rfl rfl rfl),zp rfl (op_load_e _ _ _ _ _ _ underlying5 rfl rfl rfl (flat_cell T_Tok.len hv13 rfl)),z4 rfl rfl,z8 hg8_6 rfl,zr' rfl (oM rfl),zr' rfl (oM rfl),zr' rfl (op_ix _ _ _ _ _ _ _ _ underlying23 sz40 (by decide) rfl rfl rfl (ix_ok hv14).1 (flat_lt T_Tok.len (ix_ok hv14).2) rfl),zr' rfl (op_fieldAddr_e _ _ _ _ _ _ _ underlying40 rfl sz3 rfl rfl rfl),zr' rfl (op_load_e _ _ _ _ _ _ underlying3 rfl rfl rfl (flat_cell T_Tok.len hv15 rfl)),zr' rfl (op_call _ _ 32 _ _ rfl call32 rfl (ok_wherryref01_in v15.Len 3 258 _ hv16) rfl rfl),zr' rfl (op_un _ _ _ _ rfl rfl),z3 false rfl,z8 hg8_15 rfl,zr' rfl (oM rfl),zr' rfl (oM rfl),zr' rfl (op_ix _ _ _ _ _ _ _ _ underlying23 sz40 (by decide) rfl rfl rfl (ix_ok hv17).1 (flat_lt T_Tok.len (ix_ok hv17).2) rfl),zr' rfl (op_fieldAddr_e _ _ _ _ _ _ _ underlying40 rfl sz3 rfl rfl rfl),zr' rfl (op_load_e _ _ _ _ _ _ underlying3 rfl rfl rfl (flat_cell T_Tok.len hv18 rfl)),zr' rfl (op_call _ _ 32 _ _ rfl call32 rfl (ok_wherryref01_in v18.Dist 1 2048 _ hv19) rfl rfl),zr' rfl (op_un _ _ _ _ rfl rfl),z3 false rfl,z8 hg8_24 rfl,zr' rfl (oM rfl),zr' rfl (oM rfl),zr' rfl (op_ix _ _ _ _ _ _ _ _ underlying23 sz40 (by decide) rfl rfl rfl (ix_ok hv20).1 (flat_lt T_Tok.len (ix_ok hv20).2) rfl),zr' rfl (op_fieldAddr_e _ _ _ _ _ _ _ underlying40 rfl sz3 rfl rfl rfl),zr' rfl (op_load_e _ _ _ _ _ _ underlying3 rfl rfl rfl (flat_cell T_Tok.len hv21 rfl)),zr' rfl (oM rfl),zr' rfl (oB rfl rfl),z3 false rfl,zz⟩ ?_
           exact hl139 _ (Option.some.inj h).symm
     ·intro u133 h hl134 hr135
      obtain ⟨v2, hv2, h⟩ := bind_some h
      obtain ⟨v3, hv3, h⟩ := bind_some h
      refine cond_some h (fun hg6_6 h => ?_) (fun hg6_6 h => ?_)
      ·obtain ⟨v4, hv4, h⟩ := bind_some h
       obtain ⟨v5, hv5, h⟩ := bind_some h
       refine zg hn (_::_::_::_::_::(12,.fl .shr 3 (List.flatten (List.map T_Tok.enc l)))::(13,vi s80)::(14,.eref (.slot 12) (v2 * 3))::(15,.eref (.slot 12) (v2 * 3 + 1))::(16,vi v3.Len)::(17,vb (v3.Len == 0))::(18,vb true)::(19,.fl .shr 3 (List.flatten (List.map T_Tok.enc l)))::(20,vi s80)::(21,.eref (.slot 19) (v4 * 3))::(22,.eref (.slot 19) (v4 * 3 + 2))::(23,vi v5.Dist)::(24,vb (v5.Dist == 0))::(25,vb (v5.Dist == 0))::[]) [0,1,2,3,4] [0,1,2,3,18] [zq [0] 5 12,zq [3] 6 13,zq [5,6] 7 14,zq [7,5] 8 15,zq [8,5] 9 16,zq [9] 10 17,zq [10] 11 18,zq [11,0] 12 19,zq [11,3] 13 20,zq [11,12,13] 14 21,zq [11,14,12] 15 22,zq [11,15,12] 16 23,zq [11,16] 17 24,zq [11,17] 18 25] [(_,_),(_,_),(_,_),(_,_),(_,_)] rfl ⟨z1 rfl,z1 rfl,zp rfl (op_ix _ _ _ _ _ _ _ _ underlying23 sz40 (by decide) rfl rfl rfl (ix_ok hv2).1 (flat_lt T_Tok.len (ix_ok hv2).2) rfl),zp rfl (op_fieldAddr_e _ _ _ _ _ _ _ underlying40 rfl sz3 rfl rfl rfl),zp rfl (op_load_e _ _ _ _ _ _ underlying3 rfl rfl rfl (flat_cell T_Tok.len hv3 rfl)),z4 rfl rfl,z8 hg6_6 rfl,zr' rfl (oM rfl),zr' rfl (oM rfl),zr' rfl (op_ix _ _ _ _ _ _ _ _ underlying23 sz40 (by decide) rfl rfl rfl (ix_ok hv4).1 (flat_lt T_Tok.len (ix_ok hv4).2) rfl),zr' rfl (op_fieldAddr_e _ _ _ _ _ _ _ underlying40 rfl sz3 rfl rfl rfl),zr' rfl (op_load_e _ _ _ _ _ _ underlying3 rfl rfl rfl (flat_cell T_Tok.len hv5 rfl)),zr' rfl (oB rfl rfl),z3 true rfl,zz⟩ ?_
       exact hl134 _ (Option.some.inj h).symm
      ·refine zg hn (_::_::_::_::_::(12,.fl .shr 3 (List.flatten (List.map T_Tok.enc l)))::(13,vi s80)::(14,.eref (.slot 12) (v2 * 3))::(15,.eref (.slot 12) (v2 * 3 + 1))::(16,vi v3.Len)::(17,vb (v3.Len == 0))::(18,vb false)::(19,.v undef)::(20,.v undef)::(21,.v undef)::(22,.v undef)::(23,.v undef)::(24,.v undef)::(25,vb false)::[]) [0,1,2,3,4] [0,1,2,3,18] [zq [0] 5 12,zq [3] 6 13,zq [5,6] 7 14,zq [7,5] 8 15,zq [8,5] 9 16,zq [9] 10 17,zq [10] 11 18,zq [11] 12 19,zq [11] 13 20,zq [11] 14 21,zq [11] 15 22,zq [11] 16 23,zq [11] 17 24,zq [11] 18 25] [(_,_),(_,_),(_,_),(_,_),(_,_)] rfl ⟨z1 rfl,z1 rfl,zp rfl (op_ix _ _ _ _ _ _ _ _ underlying23 sz40 (by decide) rfl rfl rfl (ix_ok hv2).1 (flat_lt T_Tok.len (ix_ok hv2).2) rfl),zp rfl (op_fieldAddr_e _ _ _ _ _ _ _ underlying40 rfl sz3 rfl rfl rfl),zp rfl (op_load_e _ _ _ _ _ _ underlying3 rfl rfl rfl (flat_cell T_Tok.len hv3 rfl)),z4 rfl rfl,z8 hg6_6 rfl,zt rfl,zt rfl,zt rfl,zt rfl,zt rfl,zt rfl,z3 false rfl,zz⟩ ?_
       exact hl134 _ (Option.some.inj h).symm
   ·have h := cond_f hb117 h
    refine ht_exit ?_
    refine pt_x_then ?_
    refine pt_x_then ?_
    refine pt_x_in ?_
    refine pt_pick [2] (by kernel_rfl) (es' := [(_,_)]) rfl ?_
    exact hl112 _ (ho114 _ (Option.some.inj h).symm).symm
theorem ok_wherryref01_Expand (l : (List T_Tok)) (r : ((List Int) × Int)) (h : Sh.wherryref01_Expand l = some r) : FnOK Try.prog 19 [.fl .shr 3 (List.flatten (List.map T_Tok.enc l))] (.tup [.fl (.own 5) 1 (List.map (Value.int .u8) r.1), .v (.int .i64 r.2)]) := by
  unfold Sh.wherryref01_Expand at h
  refine fn_ok func19 rfl (zl rfl) rfl rfl fun g0 hn hio => ?_
  refine zgg hn [_,(2,.v (.slice none 0 0)),(3,vi 0)] [0] [0] [zq [] 1 2,zq [] 2 3] [(_,_)] rfl ⟨z2 rfl,z2 rfl,zz⟩ ?_
  refine ht_seq ?_
  refine ht_seq ?_
  obtain ⟨v1, hv1, h⟩ := bind_some h
  refine zg hn [_,(8,.fl .shr 3 (List.flatten (List.map T_Tok.enc l))),(9,vi v1),(4,vi v1)] [0] [0,3] [zq [0] 1 8,zq [1] 2 9,zq [2] 3 4] [(_,_),(_,_)] rfl ⟨z1 rfl,zp rfl (op_call _ _ 23 _ _ rfl call23 rfl (ok_wherryref01_CheckToks l _ hv1) rfl rfl),z2 rfl,zz⟩ ?_
  refine pt_then ?_
  refine zgg hn [_,_,(10,vi v1),(11,vb (v1 != 0))] [0,1] [0,1,3] [zq [1] 2 10,zq [2] 3 11] [(_,_),(_,_),(_,_)] rfl ⟨z1 rfl,z4 rfl rfl,zz⟩ ?_
  refine ht_cond _ rfl (fun hb2 => ?_) (fun hb2 => ?_)
  ·have h := cond_t hb2 h
   refine zgg hn [_,_,_,(12,vi v1),(2,.v (.slice none 0 0)),(3,vi v1)] [0,1,2] [4,5] [zq [1] 3 12,zq [] 4 2,zq [3] 5 3] [(_,_),(_,_)] rfl ⟨z1 rfl,z2 rfl,z2 rfl,zz⟩ ?_
   refine ht_ret ?_
   refine pt_sub (fs := [(2, .fl (.own 5) 1 (List.map (Value.int .u8) [])), (3, .v (.int .i64 v1))]) (.sub _ (sub_nil 5 1) rfl (.same _ .nil)) ?_
   refine pt_r_then ?_
   obtain rfl := Option.some.inj h
   exact pt_ret hio rfl (.tmp _ _ (.tmp _ _ .nil)) rfl rfl
  ·have h := cond_f hb2 h
   refine ht_skip ?_
   refine pt_then ?_
   refine zgg hn [_,_,_,(5,.v (.slice none 0 0))] [0,1,2] [0,3] [zq [] 3 5] [(_,_),(_,_)] rfl ⟨z2 rfl,zz⟩ ?_
   refine ht_seq ?_
   refine zgg hn [_,_,(6,vi 0)] [0,1] [0,1,2] [zq [] 2 6] [(_,_),(_,_),(_,_)] rfl ⟨z2 rfl,zz⟩ ?_
   refine ht_sub (fs := [(0, .fl .shr 3 (List.flatten (List.map T_Tok.enc l))), (5, .fl (.own 5) 1 (List.map (Value.int .u8) [])), (6, .v (.int .i64 0))]) (.same _ (.sub _ (sub_nil 5 1) rfl (.same _ .nil))) ?_
   refine ht_loopS h (fun ((s64, s65) : (List Int) × Int) => [(0, .fl .shr 3 (List.flatten (List.map T_Tok.enc l))), (5, .fl (.own 5) 1 (List.map (Value.int .u8) s64)), (6, .v (.int .i64 s65))]) (fun (s88 : (List Int)) => [(5, .fl (.own 5) 1 (List.map (Value.int .u8) s88))]) ?_ ?_
   ·rintro s88 h
    refine pt_then ?_
    refine zgg hn [_,(56,.fl (.own 5) 1 (List.map (Value.int .u8) s88)),(2,.fl (.own 5) 1 (List.map (Value.int .u8) s88)),(3,vi 0)] [0] [2,3] [⟨[],[0],[1],[(.slot 56)]⟩,⟨[],[1],[2],[(.slot 2)]⟩,zq [] 3 3] [(_,_),(_,_)] rfl ⟨zp rfl (op_move_take _ _ _ _ rfl),zp rfl (op_assign_take _ _ _ _ rfl),z2 rfl,zz⟩ ?_
    refine ht_ret ?_
    obtain rfl := Option.some.inj h
    exact pt_ret hio rfl (.tmp _ _ (.tmp _ _ .nil)) rfl rfl
   ·rintro u89 hl90 hr91 ⟨s64, s65⟩ rr94 h ho92
    refine ht_seq ?_
    refine zgg hn [_,_,_,(13,vi s65),(14,.fl .shr 3 (List.flatten (List.map T_Tok.enc l))),(15,vi (l.length : Int)),(16,vb (decide (s65 < (l.length : Int))))] [0,1,2] [0,1,2,6] [zq [2] 3 13,zq [0] 4 14,zq [4] 5 15,zq [3,5] 6 16] [(_,_),(_,_),(_,_),(_,_)] rfl ⟨z1 rfl,z1 rfl,zp rfl (op_len_fl _ _ _ underlying23 rfl (by decide) (flat_len T_Tok.len _)),z4 rfl rfl,zz⟩ ?_
    refine ht_cond _ rfl (fun hb95 => ?_) (fun hb95 => ?_)
    ·have h := cond_t hb95 h
     refine ht_skip ?_
     refine pt_then (ht_seq ?_)
     refine ht_block ?_
     refine ht_seq ?_
     refine ht_joinS h (fun (s97 : (List Int)) => [(0, .fl .shr 3 (List.flatten (List.map T_Tok.enc l))), (6, .v (.int .i64 s65)), (5, .fl (.own 5) 1 (List.map (Value.int .u8) s97))]) ?_ ?_
     ·rintro s97 h
      refine pt_then ?_
      refine zgg hn [_,_,_,(7,vi 0)] [0,1,2] [0,1,2,3] [zq [] 3 7] [(_,_),(_,_),(_,_),(_,_)] rfl ⟨z2 rfl,zz⟩ ?_
      refine ht_loopS h (fun ((s106, s107) : (List Int) × Int) => [(0, .fl .shr 3 (List.flatten (List.map T_Tok.enc l))), (6, .v (.int .i64 s65)), (5, .fl (.own 5) 1 (List.map (Value.int .u8) s106)), (7, .v (.int .i64 s107))]) (fun (s109 : (List Int)) => [(0, .fl .shr 3 (List.flatten (List.map T_Tok.enc l))), (6, .v (.int .i64 s65)), (5, .fl (.own 5) 1 (List.map (Value.int .u8) s109))]) ?_ ?_
      ·rintro s109 h
       refine pt_inb ?_
       refine pt_then ?_
       obtain ⟨v39, hv39, h⟩ := bind_some h
       refine zg hn [_,_,_,(17,vi s65),(18,vi v39),(6,vi v39)] [0,1,2] [0,2,5] [zq [1] 3 17,zq [3] 4 18,⟨[4],[1],[5],[(.slot 6)]⟩] [(_,_),(_,_),(_,_)] rfl ⟨z1 rfl,zp rfl (oB rfl (ibind (f := Value.int .i64) (Option.some.inj hv39))),zp rfl (LOp.drop [_] (op_assign _ _ _ _ rfl rfl)),zz⟩ ?_
       exact pt_next _ (Option.some.inj h).symm rfl
      ·rintro u110 hl111 hr112 ⟨s106, s107⟩ rr115 h ho113
       refine ht_seq ?_
       refine ht_seq ?_
       obtain ⟨v15, hv15, h⟩ := bind_some h
       obtain ⟨v16, hv16, h⟩ := bind_some h
       refine zg hn [_,_,_,_,(33,vi s107),(34,.fl .shr 3 (List.flatten (List.map T_Tok.enc l))),(35,vi s65),(36,.eref (.slot 34) (v15 * 3)),(37,.eref (.slot 34) (v15 * 3 + 1)),(38,vi v16.Len),(39,vb (decide (s107 < v16.Len)))] [0,1,2,3] [0,1,2,3,10] [zq [3] 4 33,zq [0] 5 34,zq [1] 6 35,zq [5,6] 7 36,zq [7,5] 8 37,zq [8,5] 9 38,zq [4,9] 10 39] [(_,_),(_,_),(_,_),(_,_),(_,_)] rfl ⟨z1 rfl,z1 rfl,z1 rfl,zp rfl (op_ix _ _ _ _ _ _ _ _ underlying23 sz40 (by decide) rfl rfl rfl (ix_ok hv15).1 (flat_lt T_Tok.len (ix_ok hv15).2) rfl),zp rfl (op_fieldAddr_e _ _ _ _ _ _ _ underlying40 rfl sz3 rfl rfl rfl),zp rfl (op_load_e _ _ _ _ _ _ underlying3 rfl rfl rfl (flat_cell T_Tok.len hv16 rfl)),z4 rfl rfl,zz⟩ ?_
       refine pt_then ?_
       refine ht_cond _ rfl (fun hb116 => ?_) (fun hb116 => ?_)
       ·have h := cond_t hb116 h
        refine ht_skip ?_
        refine pt_then (ht_seq ?_)
        refine ht_block ?_
        obtain ⟨v18, hv18, h⟩ := bind_some h
        obtain ⟨v19, hv19, h⟩ := bind_some h
        obtain ⟨v20, hv20, h⟩ := bind_some h
        obtain ⟨v21, hv21, h⟩ := bind_some h
        obtain ⟨v22, hv22, h⟩ := bind_some h
        obtain ⟨v23, hv23, h⟩ := bind_some h
        refine zg hn (_::_::_::_::_::(42,.same (.slot 5))::(43,.same (.slot 5))::(44,.same (.slot 5))::(45,vi (s106.length : Int))::(46,.fl .shr 3 (List.flatten (List.map T_Tok.enc l)))::(47,vi s65)::(48,.eref (.slot 46) (v18 * 3))::(49,.eref (.slot 46) (v18 * 3 + 2))::(50,vi v19.Dist)::(51,vi v20)::(52,.eref (.slot 5) (v21 * 1))::(53,.v (.int .u8 v22))::(54,.fl (.own 5) 1 (List.map (Value.int .u8) [v22]))::(55,.fl (.own 5) 1 (List.map (Value.int .u8) v23))::(5,.any)::(5,.fl (.own 5) 1 (List.map (Value.int .u8) v23))::[]) [0,1,2,3,4] [0,1,3,20] (zq [2] 5 42::zq [2] 6 43::zq [2] 7 44::zq [7,2] 8 45::zq [0] 9 46::zq [1] 10 47::zq [9,10] 11 48::zq [11,9] 12 49::zq [12,9] 13 50::zq [8,13] 14 51::zq [6,2,14] 15 52::zq [15,2] 16 53::zq [16] 17 54::⟨[5,17],[2],[19,18],[(.slot 55)]⟩::⟨[],[19,5,6,7,15,18],[20],[(.slot 5)]⟩::[]) [(_,_),(_,_),(_,_),(_,_)] rfl ⟨z1 rfl,z1 rfl,z1 rfl,zp rfl (op_len_fl _ _ _ underlying22 rfl (by decide) (map_len _)),z1 rfl,z1 rfl,zp rfl (op_ix _ _ _ _ _ _ _ _ underlying23 sz40 (by decide) rfl rfl rfl (ix_ok hv18).1 (flat_lt T_Tok.len (ix_ok hv18).2) rfl),zp rfl (op_fieldAddr_e _ _ _ _ _ _ _ underlying40 rfl sz3 rfl rfl rfl),zp rfl (op_load_e _ _ _ _ _ _ underlying3 rfl rfl rfl (flat_cell T_Tok.len hv19 rfl)),zp rfl (oB rfl (ibind (f := Value.int .i64) (Option.some.inj hv20))),zp rfl (op_ix _ _ _ _ _ _ _ _ underlying22 sz5 (by decide) rfl rfl rfl (ix_ok hv21).1 (map_lt (ix_ok hv21).2) rfl),zp rfl (op_load_e _ _ _ _ _ _ underlying5 rfl rfl rfl (map_get hv22)),zp rfl (op_buildSlice _ _ 1 (.int .u8 0) (List.map (Value.int .u8) [v22]) [(0, .int .u8 v22)] underlying22 sz5 zr5 (fun _ V w o a hv hes => by have e0 := rd_v hv hes (x := .tmp 53) rfl; simp only [List.map_toArray, List.map_cons, List.map_nil, e0]; try rfl) (litfill (by simp [Instr.fill, Value.cells]; rfl) (by simp [List.range, List.range.loop] <;> rfl)) (by simp [Value.oneCell']) rfl (by decide) (by decide) (by decide)),zp rfl (op_app _ _ _ _ _ el22 rfl rfl (map_len _) (map_len _) hv23 ((List.map_append).symm.trans (congrArg (List.map _) (app_eq hv23)))),zp rfl (LOp.drop [_] (LOp.drop [_] (LOp.drop [_] (LOp.drop [_] (LOp.drop [_] (op_assign_take _ _ _ _ rfl)))))),zz⟩ ?_
        refine pt_inb ?_
        refine pt_then ?_
        obtain ⟨v24, hv24, h⟩ := bind_some h
        refine zg hn [_,_,_,_,(40,vi s107),(41,vi v24),(7,vi v24)] [0,1,2,3] [0,1,3,6] [zq [2] 4 40,zq [4] 5 41,⟨[5],[2],[6],[(.slot 7)]⟩] [(_,_),(_,_),(_,_),(_,_)] rfl ⟨z1 rfl,zp rfl (oB rfl (ibind (f := Value.int .i64) (Option.some.inj hv24))),zp rfl (LOp.drop [_] (op_assign _ _ _ _ rfl rfl)),zz⟩ ?_
        exact pt_next _ (Option.some.inj h).symm rfl
       ·have h := cond_f hb116 h
        refine ht_exit ?_
        refine pt_x_then ?_
        refine pt_x_then ?_
        refine pt_x_in ?_
        refine pt_pick [0, 1, 2] (by kernel_rfl) (es' := [(_,_),(_,_),(_,_)]) rfl ?_
        exact hl111 _ (ho113 _ (Option.some.inj h).symm).symm
     ·intro u98 h hl99 hr100
      refine ht_seq ?_
      obtain ⟨v4, hv4, h⟩ := bind_some h
      obtain ⟨v5, hv5, h⟩ := bind_some h
      refine zg hn [_,_,_,_,(19,.fl .shr 3 (List.flatten (List.map T_Tok.enc l))),(20,vi s65),(21,.eref (.slot 19) (v4 * 3)),(22,.eref (.slot 19) (v4 * 3 + 1)),(23,vi v5.Len),(24,vb (v5.Len == 0))] [0,1,2,3] [0,1,2,9] [zq [0] 4 19,zq [2] 5 20,zq [4,5] 6 21,zq [6,4] 7 22,zq [7,4] 8 23,zq [8] 9 24] [(_,_),(_,_),(_,_),(_,_)] rfl ⟨z1 rfl,z1 rfl,zp rfl (op_ix _ _ _ _ _ _ _ _ underlying23 sz40 (by decide) rfl rfl rfl (ix_ok hv4).1 (flat_lt T_Tok.len (ix_ok hv4).2) rfl),zp rfl (op_fieldAddr_e _ _ _ _ _ _ _ underlying40 rfl sz3 rfl rfl rfl),zp rfl (op_load_e _ _ _ _ _ _ underlying3 rfl rfl rfl (flat_cell T_Tok.len hv5 rfl)),z4 rfl rfl,zz⟩ ?_
      refine pt_then ?_
      refine ht_cond _ rfl (fun hb101 => ?_) (fun hb101 => ?_)
      ·have h := cond_t hb101 h
       obtain ⟨v7, hv7, h⟩ := bind_some h
       obtain ⟨v8, hv8, h⟩ := bind_some h
       obtain ⟨v9, hv9, h⟩ := bind_some h
       refine zg hn [_,_,_,_,(25,.fl (.own 5) 1 (List.map (Value.int .u8) s64)),(26,.fl .shr 3 (List.flatten (List.map T_Tok.enc l))),(27,vi s65),(28,.eref (.slot 26) (v7 * 3)),(29,.eref (.slot 26) (v7 * 3 + 0)),(30,.v (.int .u8 v8.Byte)),(31,.fl (.own 5) 1 (List.map (Value.int .u8) [v8.Byte])),(32,.fl (.own 5) 1 (List.map (Value.int .u8) v9)),(25,.any),(5,.fl (.own 5) 1 (List.map (Value.int .u8) v9))] [0,1,2,3] [0,2,13] [⟨[],[1],[4],[(.slot 25)]⟩,zq [0] 5 26,zq [2] 6 27,zq [5,6] 7 28,zq [7,5] 8 29,zq [8,5] 9 30,zq [9] 10 31,⟨[10],[4],[12,11],[(.slot 32)]⟩,⟨[],[11],[13],[(.slot 5)]⟩] [(_,_),(_,_),(_,_)] rfl ⟨zp rfl (op_move_take _ _ _ _ rfl),z1 rfl,z1 rfl,zp rfl (op_ix _ _ _ _ _ _ _ _ underlying23 sz40 (by decide) rfl rfl rfl (ix_ok hv7).1 (flat_lt T_Tok.len (ix_ok hv7).2) rfl),zp rfl (op_fieldAddr_e _ _ _ _ _ _ _ underlying40 rfl sz5 rfl rfl rfl),zp rfl (op_load_e _ _ _ _ _ _ underlying5 rfl rfl rfl (flat_cell T_Tok.len hv8 rfl)),zp rfl (op_buildSlice _ _ 1 (.int .u8 0) (List.map (Value.int .u8) [v8.Byte]) [(0, .int .u8 v8.Byte)] underlying22 sz5 zr5 (fun _ V w o a hv hes => by have e0 := rd_v hv hes (x := .tmp 30) rfl; simp only [List.map_toArray, List.map_cons, List.map_nil, e0]; try rfl) (litfill (by simp [Instr.fill, Value.cells]; rfl) (by simp [List.range, List.range.loop] <;> rfl)) (by simp [Value.oneCell']) rfl (by decide) (by decide) (by decide)),zp rfl (op_app _ _ _ _ _ el22 rfl rfl (map_len _) (map_len _) hv9 ((List.map_append).symm.trans (congrArg (List.map _) (app_eq hv9)))),zp rfl (op_assign_take _ _ _ _ rfl),zz⟩ ?_
       exact hl99 _ (Option.some.inj h).symm
      ·have h := cond_f hb101 h
       refine ht_skip ?_
       refine pt_pick [0, 2, 1] (by kernel_rfl) (es' := [(_,_),(_,_),(_,_)]) rfl ?_
       exact hl99 _ (Option.some.inj h).symm
    ·have h := cond_f hb95 h
     refine ht_exit ?_
     refine pt_x_then ?_
     refine pt_x_then ?_
     refine pt_x_in ?_
     refine pt_pick [1] (by kernel_rfl) (es' := [(_,_)]) rfl ?_
     exact hl90 _ (ho92 _ (Option.some.inj h).symm).symm
theorem ok_wherrykeep_Over (b : (List Int)) (r : Unit) (h : Sh.wherrykeep_Over b = some r) : FnE Try.prog 24 [.fl (.own 5) 1 (List.map (Value.int .u8) b)] (.tup []) := by
  unfold Sh.wherrykeep_Over at h
  refine fn_okE func24 rfl (zl rfl) rfl rfl fun g0 hn hio => ?_
  refine zgg hn [_,(2,vi 0)] [0] [0,1] [zq [] 1 2] [(_,_),(_,_)] rfl ⟨z2 rfl,zz⟩ ?_
  refine ht_loopS h (fun ((s11, s12) : (List Int) × Int) => [(0, .fl (.own 5) 1 (List.map (Value.int .u8) s11)), (2, .v (.int .i64 s12))]) (fun (() : Unit) => []) ?_ ?_
  ·rintro ⟨⟩ h
   obtain rfl := Option.some.inj h
   exact pt_endE hio rfl .nil rfl rfl
  ·rintro u14 hl15 hr16 ⟨s11, s12⟩ rr19 h ho17
   refine ht_seq ?_
   refine zgg hn [_,_,(3,vi s12),(4,.same (.slot 0)),(5,vi (s11.length : Int)),(6,vb (decide (s12 < (s11.length : Int))))] [0,1] [0,1,5] [zq [1] 2 3,zq [0] 3 4,zq [3,0] 4 5,zq [2,4] 5 6] [(_,_),(_,_),(_,_)] rfl ⟨z1 rfl,z1 rfl,zp rfl (op_len_fl _ _ _ underlying22 rfl (by decide) (map_len _)),z4 rfl rfl,zz⟩ ?_
   refine ht_cond _ rfl (fun hb20 => ?_) (fun hb20 => ?_)
   ·have h := cond_t hb20 h
    refine ht_skip ?_
    refine pt_then (ht_seq ?_)
    refine ht_block ?_
    obtain ⟨v2, hv2, h⟩ := bind_some h
    obtain ⟨v3, hv3, h⟩ := bind_some h
    obtain ⟨v4, hv4, h⟩ := bind_some h
    obtain ⟨v5, hv5, h⟩ := bind_some h
    obtain ⟨v6, hv6, h⟩ := bind_some h
    refine zg hn [_,_,_,(9,.same (.slot 0)),(10,vi s12),(11,.same (.slot 0)),(12,vi s12),(13,.eref (.slot 0) (v2 * 1)),(14,.v (.int .u8 v3)),(15,.v (.int .u8 v4)),(16,.eref (.slot 0) (v5 * 1)),(0,.fl (.own 5) 1 (List.map (Value.int .u8) v6))] [0,1,2] [11,1] [zq [0] 3 9,zq [1] 4 10,zq [0] 5 11,zq [1] 6 12,zq [5,0,6] 7 13,zq [7,0] 8 14,zq [8] 9 15,zq [3,0,4] 10 16,⟨[10,9],[0],[11],[]⟩] [(_,_),(_,_)] rfl ⟨z1 rfl,z1 rfl,z1 rfl,z1 rfl,zp rfl (op_ix _ _ _ _ _ _ _ _ underlying22 sz5 (by decide) rfl rfl rfl (ix_ok hv2).1 (map_lt (ix_ok hv2).2) rfl),zp rfl (op_load_e _ _ _ _ _ _ underlying5 rfl rfl rfl (map_get hv3)),zp rfl (oB rfl (ibind (f := Value.int .u8) (Option.some.inj hv4))),zp rfl (op_ix _ _ _ _ _ _ _ _ underlying22 sz5 (by decide) rfl rfl rfl (ix_ok hv5).1 (map_lt (ix_ok hv5).2) rfl),zp rfl (op_store_e _ _ _ _ _ _ _ _ sz5 rfl rfl rfl (by decide) (map_lt (ix_ok hv5).2) ((map_set (f := Value.int .u8) _ (ix_ok hv5).2).trans (congrArg (List.map _) (Option.some.inj hv6)))),zz⟩ ?_
    refine pt_inb ?_
    refine pt_then ?_
    obtain ⟨v7, hv7, h⟩ := bind_some h
    refine zg hn [_,_,(7,vi s12),(8,vi v7),(2,vi v7)] [0,1] [0,4] [zq [1] 2 7,zq [2] 3 8,⟨[3],[1],[4],[(.slot 2)]⟩] [(_,_),(_,_)] rfl ⟨z1 rfl,zp rfl (oB rfl (ibind (f := Value.int .i64) (Option.some.inj hv7))),zp rfl (LOp.drop [_] (op_assign _ _ _ _ rfl rfl)),zz⟩ ?_
    exact pt_next _ (Option.some.inj h).symm rfl
   ·have h := cond_f hb20 h
    refine ht_exit ?_
    refine pt_x_then ?_
    refine pt_x_then ?_
    refine pt_x_in ?_
    refine pt_pick [] (by kernel_rfl) (es' := []) rfl ?_
    exact hl15 _ (ho17 _ (Option.some.inj h).symm).symm
end Go.Proofs.Ytepkcpjfogjfhaa
