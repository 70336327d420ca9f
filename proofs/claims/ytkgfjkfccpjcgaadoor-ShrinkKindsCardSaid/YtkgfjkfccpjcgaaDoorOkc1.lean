/-
  The model's runs are what is told in Lean.
-/
import Derived.Test.YtkgfjkfccpjcgaaDoorProg
import Derived.KernelRfl
import Derived.Test.YtkgfjkfccpjcgaaDoorShelf
import Derived.Test.YtkgfjkfccpjcgaaDoorB2
import Derived.Test.YtkgfjkfccpjcgaaDoorB4
import Derived.Test.YtkgfjkfccpjcgaaDoorB5
import Derived.Test.YtkgfjkfccpjcgaaDoorB8
import Derived.Test.YtkgfjkfccpjcgaaDoorSrt
import Derived.Test.YtkgfjkfccpjcgaaDoorB9
import Derived.Test.YtkgfjkfccpjcgaaDoorShr
import Derived.Test.YtkgfjkfccpjcgaaDoorSh
set_option linter.unusedVariables false
set_option linter.unusedSimpArgs false
set_option maxHeartbeats 1000000
namespace Go.Proofs.YtkgfjkfccpjcgaaDoor
open Go.Abs Go.Abs.Sh Tryd
open List (map flatten)
open Value (int)
def GL (mx : Int) : List (Nat × List Value) := [(0, (List.map (Value.int .i64) shrink_rowOrder))]
theorem gl_mem0 (mx : Int) : (0, ((List.map (Value.int .i64) shrink_rowOrder) : List Value)) ∈ GL mx := .head _
theorem fs57 : ∀ fs, Tryd.prog.underlying 57 = some (.struct fs) → fs.toList.map (fun f => (Tryd.prog.info? f.type).map (·.size)) = ([1, 1] : List Nat).map some := by
  intro fs h
  rw [Tryd.underlying57] at h
  cases h
  kernel_rfl
theorem zr57 : (Tryd.prog.info? 57).bind (·.zero) = some (.agg #[.slice none 0 0, .int .i64 0]) := by kernel_rfl
theorem sz3 : (Tryd.prog.info? 3).map (·.size) = some 1 := by kernel_rfl
theorem sz22 : (Tryd.prog.info? 22).map (·.size) = some 1 := by kernel_rfl
theorem sz5 : (Tryd.prog.info? 5).map (·.size) = some 1 := by kernel_rfl
theorem zr5 : (Tryd.prog.info? 5).bind (·.zero) = some (.int .u8 0) := by kernel_rfl
theorem el22 : ElemT Tryd.prog 22 5 1 1 := ⟨⟨Tryd.t5, .int .u8 0, Tryd.underlying22, by kernel_rfl, by kernel_rfl, by kernel_rfl, by kernel_rfl, by decide, by kernel_rfl⟩⟩
theorem fs103 : ∀ fs, Tryd.prog.underlying 103 = some (.struct fs) → fs.toList.map (fun f => (Tryd.prog.info? f.type).map (·.size)) = ([1, 1, 1, 1] : List Nat).map some := by
  intro fs h
  rw [Tryd.underlying103] at h
  cases h
  kernel_rfl
theorem zr103 : (Tryd.prog.info? 103).bind (·.zero) = some (.agg #[.slice none 0 0, .map none, .slice none 0 0, .int .i64 0]) := by kernel_rfl
theorem za105 : ((Tryd.prog.info? 105).bind (·.zero)).map (·.cells.toList) = some (List.map (Value.int .u8) (List.replicate 3 (0 : Int))) := by kernel_rfl
theorem zr105 : (Tryd.prog.info? 105).bind (·.zero) = some (.agg #[.int .u8 0, .int .u8 0, .int .u8 0]) := by kernel_rfl
theorem sz105 : (Tryd.prog.info? 105).map (·.size) = some 3 := by kernel_rfl
theorem sz101 : (Tryd.prog.info? 101).map (·.size) = some 1 := by kernel_rfl
theorem zr3 : (Tryd.prog.info? 3).bind (·.zero) = some (.int .i64 0) := by kernel_rfl
theorem mf101 : MapF Tryd.prog 101 105 3 3 := mapF_of Tryd.underlying101 Tryd.underlying3 zr3 Tryd.underlying105 Tryd.underlying5 (by kernel_rfl) (by kernel_rfl) (by kernel_rfl) (by kernel_rfl)
theorem sz37 : (Tryd.prog.info? 37).map (·.size) = some 1 := by kernel_rfl
theorem fs53 : ∀ fs, Tryd.prog.underlying 53 = some (.struct fs) → fs.toList.map (fun f => (Tryd.prog.info? f.type).map (·.size)) = ([1, 1, 1] : List Nat).map some := by
  intro fs h
  rw [Tryd.underlying53] at h
  cases h
  kernel_rfl
theorem zr53 : (Tryd.prog.info? 53).bind (·.zero) = some (.agg #[.int .u8 0, .int .i64 0, .int .i64 0]) := by kernel_rfl
theorem sz53 : (Tryd.prog.info? 53).map (·.size) = some 3 := by kernel_rfl
theorem el45 : ElemT Tryd.prog 45 53 3 24 := ⟨⟨Tryd.t53, .agg #[.int .u8 0, .int .i64 0, .int .i64 0], Tryd.underlying45, by kernel_rfl, by kernel_rfl, by kernel_rfl, by kernel_rfl, by decide, by kernel_rfl⟩⟩
theorem el37 : ElemT Tryd.prog 37 3 1 8 := ⟨⟨Tryd.t3, .int .i64 0, Tryd.underlying37, by kernel_rfl, by kernel_rfl, by kernel_rfl, by kernel_rfl, by decide, by kernel_rfl⟩⟩
theorem zr87 : (Tryd.prog.info? 87).bind (·.zero) = some (.agg #[.slice none 0 0, .slice none 0 0]) := by kernel_rfl
theorem za124 : ((Tryd.prog.info? 124).bind (·.zero)).map (·.cells.toList) = some (List.map (Value.int .i64) (List.replicate 16 (0 : Int))) := by kernel_rfl
theorem sz124 : (Tryd.prog.info? 124).map (·.size) = some 16 := by kernel_rfl
theorem zr124 : (Tryd.prog.info? 124).bind (·.zero) = some (.agg #[.int .i64 0, .int .i64 0, .int .i64 0, .int .i64 0, .int .i64 0, .int .i64 0, .int .i64 0, .int .i64 0, .int .i64 0, .int .i64 0, .int .i64 0, .int .i64 0, .int .i64 0, .int .i64 0, .int .i64 0, .int .i64 0]) := by kernel_rfl
theorem fs87 : ∀ fs, Tryd.prog.underlying 87 = some (.struct fs) → fs.toList.map (fun f => (Tryd.prog.info? f.type).map (·.size)) = ([1, 1] : List Nat).map some := by
  intro fs h
  rw [Tryd.underlying87] at h
  cases h
  kernel_rfl
theorem sz87 : (Tryd.prog.info? 87).map (·.size) = some 2 := by kernel_rfl
theorem zr119 : (Tryd.prog.info? 119).bind (·.zero) = some (.agg #[.int .i64 0, .int .i64 0, .int .i64 0]) := by kernel_rfl
theorem fs119 : ∀ fs, Tryd.prog.underlying 119 = some (.struct fs) → fs.toList.map (fun f => (Tryd.prog.info? f.type).map (·.size)) = ([1, 1, 1] : List Nat).map some := by
  intro fs h
  rw [Tryd.underlying119] at h
  cases h
  kernel_rfl
theorem sz119 : (Tryd.prog.info? 119).map (·.size) = some 3 := by kernel_rfl
theorem el129 : ElemT Tryd.prog 129 131 2 16 := ⟨⟨Tryd.t131, .agg #[.int .i64 0, .int .i64 0], Tryd.underlying129, by kernel_rfl, by kernel_rfl, by kernel_rfl, by kernel_rfl, by decide, by kernel_rfl⟩⟩
theorem fs131 : ∀ fs, Tryd.prog.underlying 131 = some (.struct fs) → fs.toList.map (fun f => (Tryd.prog.info? f.type).map (·.size)) = ([1, 1] : List Nat).map some := by
  intro fs h
  rw [Tryd.underlying131] at h
  cases h
  kernel_rfl
theorem zr131 : (Tryd.prog.info? 131).bind (·.zero) = some (.agg #[.int .i64 0, .int .i64 0]) := by kernel_rfl
theorem sz131 : (Tryd.prog.info? 131).map (·.size) = some 2 := by kernel_rfl
theorem sz129 : (Tryd.prog.info? 129).map (·.size) = some 1 := by kernel_rfl
theorem sz113 : (Tryd.prog.info? 113).map (·.size) = some 19 := by kernel_rfl
theorem ok_shrink_writer_put (w : T_shrink_writer) (v : Int) (n : Int) (r : T_shrink_writer) (h : Sh.shrink_writer_put w v n = some r) : FnP Tryd.prog 55 [.box 57 [.fl (.own 5) 1 (map (int .u8) w.b), .v (.int .i64 w.n)], .v (.int .i64 v), .v (.int .i64 n)] [.box 57 [.fl (.own 5) 1 (map (int .u8) r.b), .v (.int .i64 r.n)]] (.tup []) := by
  unfold Sh.shrink_writer_put at h
  refine fn_okP func55 rfl (zl rfl) rfl (zl rfl) fun args0 hargs0 g0 hn hio => ?_
  refine ht_seq ?_
  obtain ⟨v1, hv1, h⟩ := zn h
  refine zg hn [_,_,_,_,(9,vi v),(10,.v (.int .u32 v1)),(6,.v (.int .u32 v1))] [0,1,2,3] [0,2,3,6] [zq [1] 4 9,zq [4] 5 10,zq [5] 6 6] [(_,_),(_,_),(_,_),(_,_)] rfl ⟨z1 rfl,zp rfl ((Option.some.inj hv1) ▸ op_conv _ _ _ underlying3 underlying100 rfl),z2 rfl,zz⟩ ?_
  refine pt_then ?_
  refine ht_loopS h (fun ((s35,s36,s37,s38) : (List Int) × Int × Int × Int) => [(0,.box 57 [.fl (.own 5) 1 (map (int .u8) s35),vi s36]),(2,vi s37),(0,.v (List.getD args0 0 undef)),(6,.v (.int .u32 s38))]) (fun ((s46,s47) : (List Int) × Int) => [(0,.box 57 [.fl (.own 5) 1 (map (int .u8) s46),vi s47]),(0,.v (List.getD args0 0 undef))]) ?_ ?_
  ·rintro ⟨s46, s47⟩ h
   obtain rfl := zi h
   exact pt_endP (es := []) (posts := [.box 57 [.fl (.own 5) 1 (map (int .u8) s46), .v (.int .i64 s47)]]) hio rfl rfl .nil rfl rfl hargs0 rfl
  ·rintro u48 hl49 hr50 ⟨s35, s36, s37, s38⟩ rr53 h ho51
   refine ht_seq ?_
   refine zgg hn [_,_,_,_,(11,vi s37),(12,vb (decide (0 < s37)))] [0,1,2,3] [0,1,2,3,5] [zq [1] 4 11,zq [4] 5 12] [(_,_),(_,_),(_,_),(_,_),(_,_)] rfl ⟨z1 rfl,z4 rfl rfl,zz⟩ ?_
   refine ht_cond _ rfl (fun hb54 => ?_) (fun hb54 => ?_)
   ·have h := cond_t hb54 h
    refine ht_skip ?_
    refine pt_then ?_
    refine ht_block ?_
    refine ht_seq ?_
    obtain ⟨v3, hv3, h⟩ := zn h
    refine zg hn [_,_,_,_,_,(13,.ptr 0 0),(14,.ptr 0 0),(15,.ptr 0 1),(16,vi s36),(17,vi v3),(7,vi v3)] [0,1,2,3,4] [0,1,2,3,10] [zq [0] 5 13,zq [5,0] 6 14,zq [6,0] 7 15,zq [7,0] 8 16,zq [8] 9 17,zq [9] 10 7] [(_,_),(_,_),(_,_),(_,_),(_,_)] rfl ⟨z1 rfl,zp rfl (op_nilCheck _ _ _ 0 0 rfl (by decide)),zp rfl (oF underlying57 rfl sz3),zp rfl (oL underlying3 rfl),zp rfl (oB rfl (rem_ok hv3)),z2 rfl,zz⟩ ?_
    refine pt_then (ht_seq ?_)
    refine ht_joinS h (fun (s56 : (List Int)) => [(0,.box 57 [.fl (.own 5) 1 (map (int .u8) s56),vi s36]),(2,vi s37),(0,.v (List.getD args0 0 undef)),(6,.v (.int .u32 s38)),(7,vi v3)]) ?_ ?_
    ·rintro s56 h
     refine pt_then (ht_seq ?_)
     obtain ⟨v11, hv11, h⟩ := zn h
     obtain ⟨v12, hv12, h⟩ := zn h
     refine zg hn [_,_,_,_,_,(29,vi v3),(30,vi v11),(31,vi s37),(32,vi v12),(8,vi v12)] [0,1,2,3,4] [0,1,2,3,4,9] [zq [4] 5 29,zq [5] 6 30,zq [1] 7 31,zq [6,7] 8 32,zq [8] 9 8] [(_,_),(_,_),(_,_),(_,_),(_,_),(_,_)] rfl ⟨z1 rfl,zp rfl (oB rfl (ibind (f := int .i64) (Option.some.inj hv11))),z1 rfl,zp rfl ((Option.some.inj hv12) ▸ op_min _ _ _ _ rfl rfl),z2 rfl,zz⟩ ?_
     refine pt_then (ht_seq ?_)
     obtain ⟨v13, hv13, h⟩ := zn h
     obtain ⟨v14, hv14, h⟩ := zn h
     obtain ⟨v15, hv15, h⟩ := zn h
     obtain ⟨v16, hv16, h⟩ := zn h
     obtain ⟨v17, hv17, h⟩ := zn h
     obtain ⟨v18, hv18, h⟩ := zn h
     obtain ⟨v19, hv19, h⟩ := zn h
     obtain ⟨v20, hv20, h⟩ := zn h
     refine ht_anyR (by kernel_rfl) hn (El := (_ :: _ :: _ :: _ :: _ :: _ :: (33,.same (.slot 0)) :: (34,.ptr 0 0) :: (35,.ptr 0 0) :: (36,.same (.cell 0 0)) :: (37,.same (.slot 0)) :: (38,.ptr 0 0) :: (39,.ptr 0 0) :: (40,.same (.cell 0 0)) :: (41,vi (s56.length : Int)) :: (42,vi v13) :: (43,.eref (.cell 0 0) (v14 * 1)) :: (44,.v (.int .u8 v15)) :: (45,.v (.int .u32 s38)) :: (46,vi v3) :: (47,.v (.int .u32 v16)) :: (48,.v (.int .u8 v17)) :: (49,.v (.int .u8 v18)) :: (50,.eref (.cell 0 0) (v19 * 1)) :: (0,.box 57 [.fl (.own 5) 1 (map (int .u8) v20),vi s36]) :: [])) (init := [0,1,2,3,4,5]) (fin := [24,1,2,3,5]) (sps := (zq [] 6 33 :: zq [6,0] 7 34 :: zq [7,0] 8 35 :: zq [8,0] 9 36 :: zq [] 10 37 :: zq [10,0] 11 38 :: zq [11,0] 12 39 :: zq [12,0] 13 40 :: zq [13,0] 14 41 :: zq [14] 15 42 :: zq [9,0,15] 16 43 :: zq [16,0] 17 44 :: zq [3] 18 45 :: zq [4] 19 46 :: zq [18,19] 20 47 :: zq [20] 21 48 :: zq [17,21] 22 49 :: zq [9,0,15] 23 50 :: ⟨[23,22],[0],[24],[]⟩ :: [])) (es' := [(0,.box 57 [.fl (.own 5) 1 (map (int .u8) v20),vi s36]),(_,_),(_,_),(_,_),(_,_)]) (by kernel_rfl) rfl rfl ⟨zp rfl (op_move_name _ _ _ rfl),zp rfl (op_nilCheck_name _ _ _ 0 rfl rfl (by decide)),zp rfl (oF underlying57 rfl sz22),zp rfl (oL underlying22 rfl),zp rfl (op_move_name _ _ _ rfl),zp rfl (op_nilCheck_name _ _ _ 0 rfl rfl (by decide)),zp rfl (oF underlying57 rfl sz22),zp rfl (oL underlying22 rfl),zp rfl (op_len_fl _ _ _ underlying22 rfl (by decide) (map_len _)),zp rfl (oB rfl (ibind (f := int .i64) (Option.some.inj hv13))),zp rfl (op_ix _ _ _ _ _ _ _ _ underlying22 sz5 (by decide) rfl rfl rfl (ix_ok hv14).1 (map_lt (ix_ok hv14).2) rfl),zp rfl (op_load_e _ _ _ _ _ _ underlying5 rfl rfl rfl (map_get hv15)),z1 rfl,z1 rfl,zp rfl (oB rfl (shl_ok hv16)),zp rfl ((Option.some.inj hv17) ▸ op_conv _ _ _ underlying100 underlying5 rfl),zp rfl (oB rfl (ibind (f := int .u8) (Option.some.inj hv18))),zp rfl (op_ix _ _ _ _ _ _ _ _ underlying22 sz5 (by decide) rfl rfl rfl (ix_ok hv19).1 (map_lt (ix_ok hv19).2) rfl),zp rfl (op_store_e_cell _ _ _ 0 0 _ _ _ _ sz5 rfl rfl (zl rfl) rfl rfl (by decide) (map_lt (ix_ok hv19).2) ((map_set (f := int .u8) _ (ix_ok hv19).2).trans (congrArg (map _) (Option.some.inj hv20))) rfl),zz⟩ ?_
     refine pt_then (ht_seq ?_)
     obtain ⟨v21, hv21, h⟩ := zn h
     refine zg hn [_,_,_,_,_,(51,.v (.int .u32 s38)),(52,vi v12),(53,.v (.int .u32 v21)),(6,.v (.int .u32 v21))] [0,1,2,3,4] [0,1,2,4,8] [zq [3] 5 51,zq [4] 6 52,zq [5,6] 7 53,⟨[7],[3],[8],[(.slot 6)]⟩] [(_,_),(_,_),(_,_),(_,_),(_,_)] rfl ⟨z1 rfl,z1 rfl,zp rfl (oB rfl (shr_ok hv21)),zp rfl (LOp.drop [_] (op_assign _ _ _ _ rfl rfl)),zz⟩ ?_
     refine pt_then (ht_seq ?_)
     obtain ⟨v22, hv22, h⟩ := zn h
     refine zg hn [_,_,_,_,_,(54,.ptr 0 0),(55,.ptr 0 0),(56,.ptr 0 1),(57,vi s36),(58,vi v12),(59,vi v22),(60,.ptr 0 0),(61,.ptr 0 1),(0,.box 57 [.fl (.own 5) 1 (map (int .u8) v20),vi v22])] [0,1,2,3,4] [13,1,2,3,4] [zq [0] 5 54,zq [5,0] 6 55,zq [6,0] 7 56,zq [7,0] 8 57,zq [3] 9 58,zq [8,9] 10 59,zq [5,0] 11 60,zq [11,0] 12 61,⟨[12,10],[0],[13],[.cell 0 1]⟩] [(_,_),(_,_),(_,_),(_,_),(_,_)] rfl ⟨z1 rfl,zp rfl (op_nilCheck _ _ _ 0 0 rfl (by decide)),zp rfl (oF underlying57 rfl sz3),zp rfl (oL underlying3 rfl),z1 rfl,zp rfl (oB rfl (ibind (f := int .i64) (Option.some.inj hv22))),zp rfl (op_nilCheck _ _ _ 0 0 rfl (by decide)),zp rfl (oF underlying57 rfl sz3),zp rfl (oS sz3 rfl),zz⟩ ?_
     refine pt_then ?_
     obtain ⟨v23, hv23, h⟩ := zn h
     refine zg hn [_,_,_,_,_,(62,vi s37),(63,vi v12),(64,vi v23),(2,vi v23)] [0,1,2,3,4] [0,2,4,8] [zq [1] 5 62,zq [3] 6 63,zq [5,6] 7 64,⟨[7],[1],[8],[(.slot 2)]⟩] [(_,_),(_,_),(_,_),(_,_)] rfl ⟨z1 rfl,z1 rfl,zp rfl (oB rfl (ibind (f := int .i64) (Option.some.inj hv23))),zp rfl (LOp.drop [_] (op_assign _ _ _ _ rfl rfl)),zz⟩ ?_
     refine pt_inb ?_
     refine pt_pick [0,3,1,2] (by kernel_rfl) (es' := [(_,_),(_,_),(_,_),(_,_)]) rfl ?_
     exact pt_next _ (zi h).symm rfl
    ·intro u57 h hl58 hr59
     refine zgg hn [_,_,_,_,_,(18,vi v3),(19,vb (v3 == 0))] [0,1,2,3,4] [0,1,2,3,4,6] [zq [4] 5 18,zq [5] 6 19] [(_,_),(_,_),(_,_),(_,_),(_,_),(_,_)] rfl ⟨z1 rfl,z4 rfl rfl,zz⟩ ?_
     refine ht_cond _ rfl (fun hb60 => ?_) (fun hb60 => ?_)
     ·have h := cond_t hb60 h
      obtain ⟨v5, hv5, h⟩ := zn h
      refine zg hn (_::_::_::_::_::_::(20,.ptr 0 0)::(21,.ptr 0 0)::(22,.ptr 0 0)::(23,.ptr 0 0)::(24,.same (.cell 0 0))::(25,.fl (.own 5) 1 (map (int .u8) [0]))::(26,.fl (.own 5) 1 (map (int .u8) v5))::(0,.box 57 [.any,vi s36])::(27,.ptr 0 0)::(28,.ptr 0 0)::(0,.box 57 [.fl (.own 5) 1 (map (int .u8) v5),vi s36])::[]) [0,1,2,3,4,5] [16,1,2,3,4] [zq [0] 6 20,zq [0] 7 21,zq [7,0] 8 22,zq [8,0] 9 23,zq [9,0] 10 24,zq [] 11 25,⟨[10,11],[0],[13,12],[(.slot 26)]⟩,zq [6,13] 14 27,zq [14,13] 15 28,⟨[15],[10,12,13],[16],[.cell 0 0]⟩] [(_,_),(_,_),(_,_),(_,_),(_,_)] rfl ⟨z1 rfl,z1 rfl,zp rfl (op_nilCheck _ _ _ 0 0 rfl (by decide)),zp rfl (oF underlying57 rfl sz22),zp rfl (oL underlying22 rfl),zp rfl (op_buildSlice _ _ 1 (.int .u8 0) (map (int .u8) [0]) [(0, .int .u8 0)] underlying22 sz5 zr5 (fun _ V w o a hv hes => by simp only [List.map_toArray, List.map_cons, List.map_nil]; try rfl) (litfill (by simp [Instr.fill, Value.cells]; rfl) (by simp [List.range, List.range.loop] <;> rfl)) (by simp [Value.oneCell']) rfl (by decide) (by decide) (by decide)),zp rfl (op_app_cell _ _ _ _ _ _ el22 rfl rfl (zl rfl) rfl (map_len _) (map_len _) hv5 ((List.map_append).symm.trans (congrArg (map _) (app_eq hv5))) (Nat.ne_of_beq_eq_false rfl) rfl rfl),zp rfl (op_nilCheck _ _ _ 0 0 rfl (by decide)),zp rfl (oF underlying57 rfl sz22),zp rfl (LOp.drop [_] (op_store_take _ _ _ _ _ _ _ _ sz22 rfl rfl rfl (zl rfl) rfl rfl)),zz⟩ ?_
      exact hl58 _ (zi h).symm
     ·have h := cond_f hb60 h
      refine ht_skip ?_
      refine pt_pick [0,1,2,3,4] (by kernel_rfl) (es' := [(_,_),(_,_),(_,_),(_,_),(_,_)]) rfl ?_
      exact hl58 _ (zi h).symm
   ·have h := cond_f hb54 h
    refine ht_exit ?_
    refine pt_x_then ?_
    refine pt_x_then ?_
    refine pt_x_in ?_
    refine pt_pick [0,2] (by kernel_rfl) (es' := [(_,_),(_,_)]) rfl ?_
    exact hl49 _ (ho51 _ (zi h).symm).symm
theorem ok_shrink_newBlock (kind : Int) (r : (Option T_shrink_writer)) (h : Sh.shrink_newBlock kind = some r) : FnOK Tryd.prog 54 [.v (.int .i64 kind)] (.obox (Option.isSome r) 57 [.fl (.own 5) 1 (map (int .u8) (((Option.getD r (default : T_shrink_writer))).b)), .v (.int .i64 (((Option.getD r (default : T_shrink_writer))).n))]) := by
  unfold Sh.shrink_newBlock at h
  refine fn_ok func54 rfl (zl rfl) rfl rfl fun g0 hn hio => ?_
  refine zgg hn [_,(2,.v (.pointer none))] [0] [0] [zq [] 1 2] [(_,_)] rfl ⟨z2 rfl,zz⟩ ?_
  refine zgg hn [_,(4,.agg [vz,vi 0]),(5,.box 57 [vz,vi 0]),(3,.box 57 [vz,vi 0])] [0] [0,3] [zq [] 1 4,zq [1] 2 5,⟨[],[2],[3],[(.slot 3)]⟩] [(_,_),(_,_)] rfl ⟨zp rfl (op_build _ _ _ _ [1, 1] _ _ underlying57 zr57 (fs57 _ underlying57) Src.nil rfl rfl rfl),zp rfl (op_box _ _ _ _ rfl rfl rfl),zp rfl (op_assign_take _ _ _ _ rfl),zz⟩ ?_
  refine ht_seq ?_
  obtain ⟨v1, hv1, h⟩ := zn h
  refine zg hn [_,_,(6,.ptr 3 0),(7,.tup []),(3,.box 57 [.fl (.own 5) 1 (map (int .u8) v1.b),vi v1.n])] [0,1] [0,4] [zq [1] 2 6,⟨[2],[1],[4,3],[(.slot 7),(.cell 3 0),(.cell 3 1)]⟩] [(_,_),(_,_)] rfl ⟨z1 rfl,zp rfl (op_callP _ _ _ _ 7 55 [.tmp 6] [_, _] _ _ _ rfl call55 rfl rfl rfl ((ok_shrink_writer_put (T_shrink_writer.mk [] 0) 1 1 _ hv1).args (subs_cons (sub_box (subs_cons (sub_nil 5 1) (subs_cons (sub_refl _) (subs_nil)))) (subs_cons (sub_refl _) (subs_cons (sub_refl _) (subs_nil))))) (zl rfl) rfl rfl rfl rfl rfl rfl rfl rfl),zz⟩ ?_
  refine pt_then (ht_seq ?_)
  obtain ⟨v2, hv2, h⟩ := zn h
  refine zg hn [_,_,(8,.ptr 3 0),(9,vi kind),(10,.tup []),(3,.box 57 [.fl (.own 5) 1 (map (int .u8) v2.b),vi v2.n])] [0,1] [5] [zq [1] 2 8,zq [0] 3 9,⟨[2,3],[1],[5,4],[(.slot 10),(.cell 3 0),(.cell 3 1)]⟩] [(_,_)] rfl ⟨z1 rfl,z1 rfl,zp rfl (op_callP _ _ _ _ 10 55 [.tmp 8] [.tmp 9, _] _ _ _ rfl call55 rfl rfl rfl (ok_shrink_writer_put v1 kind 2 _ hv2) (zl rfl) rfl rfl rfl rfl rfl rfl rfl rfl),zz⟩ ?_
  refine pt_then ?_
  refine zgg hn [_,(11,.box 57 [.fl (.own 5) 1 (map (int .u8) v2.b),vi v2.n]),(2,.box 57 [.fl (.own 5) 1 (map (int .u8) v2.b),vi v2.n])] [0] [2] [⟨[],[0],[1],[(.slot 11)]⟩,⟨[],[1],[2],[(.slot 2)]⟩] [(_,_)] rfl ⟨zp rfl (op_move_take _ _ _ _ rfl),zp rfl (op_assign_take _ _ _ _ rfl),zz⟩ ?_
  refine ht_ret ?_
  refine pt_sub (fs := [(2,.obox true 57 [.fl (.own 5) 1 (map (int .u8) v2.b),vi v2.n])]) (.sub _ (sub_ob_box 57 (subs_refl _)) rfl .nil) ?_
  obtain rfl := zi h
  exact pt_ret hio rfl (.tmp _ _ .nil) rfl rfl
theorem ok_shrink_storedBlock (b : (List Int)) (r : (Option T_shrink_writer)) (h : Sh.shrink_storedBlock b = some r) : FnOK Tryd.prog 33 [.fl .shr 1 (map (int .u8) b)] (.obox (Option.isSome r) 57 [.fl (.own 5) 1 (map (int .u8) (((Option.getD r (default : T_shrink_writer))).b)), .v (.int .i64 (((Option.getD r (default : T_shrink_writer))).n))]) := by
  unfold Sh.shrink_storedBlock at h
  refine fn_ok func33 rfl (zl rfl) rfl rfl fun g0 hn hio => ?_
  refine zgg hn [_,(2,.v (.pointer none))] [0] [0] [zq [] 1 2] [(_,_)] rfl ⟨z2 rfl,zz⟩ ?_
  refine ht_seq ?_
  obtain ⟨v1, hv1, h⟩ := zn h
  refine zg hn [_,(6,.obox (Option.isSome v1) 57 [.fl (.own 5) 1 (map (int .u8) (((Option.getD v1 (default : T_shrink_writer))).b)),vi (((Option.getD v1 (default : T_shrink_writer))).n)]),(3,.obox (Option.isSome v1) 57 [.fl (.own 5) 1 (map (int .u8) (((Option.getD v1 (default : T_shrink_writer))).b)),vi (((Option.getD v1 (default : T_shrink_writer))).n)])] [0] [0,2] [zq [] 1 6,⟨[],[1],[2],[(.slot 3)]⟩] [(_,_),(_,_)] rfl ⟨zp rfl (op_call _ _ 54 _ _ rfl call54 rfl (ok_shrink_newBlock 0 _ hv1) rfl rfl),zp rfl (op_assign_take _ _ _ _ rfl),zz⟩ ?_
  refine pt_ob (d := default) (f := fun (v2 : T_shrink_writer) => [.fl (.own 5) 1 (map (int .u8) v2.b), .v (.int .i64 v2.n)]) 1 2 3 57 h (es1 := fun v2 => [(0, fb b), (3, .box 57 [.fl (.own 5) 1 (map (int .u8) v2.b), .v (.int .i64 v2.n)])]) (es0 := [(0, fb b), (3, .v (.pointer none))]) rfl (fun _ => rfl) (by kernel_rfl) (fun _ => rfl) (fun _ => rfl) rfl (fun v2 hv3 h => ?_) (fun hv3 h => ?_)
  ·refine pt_then (ht_seq ?_)
   obtain ⟨v4, hv4, h⟩ := zn h
   refine zg hn [_,_,(7,.ptr 3 0),(8,.ptr 3 0),(9,.ptr 3 0),(10,.ptr 3 0),(11,.same (.cell 3 0)),(12,vi (v2.b.length : Int)),(13,vi v4),(14,.ptr 3 0),(15,.ptr 3 1),(3,.box 57 [.fl (.own 5) 1 (map (int .u8) v2.b),vi v4])] [0,1] [0,11] [zq [1] 2 7,zq [1] 3 8,zq [3,1] 4 9,zq [4,1] 5 10,zq [5,1] 6 11,zq [6,1] 7 12,zq [7] 8 13,zq [2,1] 9 14,zq [9,1] 10 15,⟨[10,8],[1],[11],[.cell 3 1]⟩] [(_,_),(_,_)] rfl ⟨z1 rfl,z1 rfl,zp rfl (op_nilCheck _ _ _ 3 0 rfl (by decide)),zp rfl (oF underlying57 rfl sz22),zp rfl (oL underlying22 rfl),zp rfl (op_len_fl _ _ _ underlying22 rfl (by decide) (map_len _)),zp rfl (oB rfl (ibind (f := int .i64) (Option.some.inj hv4))),zp rfl (op_nilCheck _ _ _ 3 0 rfl (by decide)),zp rfl (oF underlying57 rfl sz3),zp rfl (oS sz3 rfl),zz⟩ ?_
   refine pt_then (ht_seq ?_)
   obtain ⟨v5, hv5, h⟩ := zn h
   refine zg hn [_,_,(16,.ptr 3 0),(17,fb b),(18,vi (b.length : Int)),(19,.tup []),(3,.box 57 [.fl (.own 5) 1 (map (int .u8) v5.b),vi v5.n])] [0,1] [0,6] [zq [1] 2 16,zq [0] 3 17,zq [3] 4 18,⟨[2,4],[1],[6,5],[(.slot 19),(.cell 3 0),(.cell 3 1)]⟩] [(_,_),(_,_)] rfl ⟨z1 rfl,z1 rfl,zp rfl (op_len_fl _ _ _ underlying22 rfl (by decide) (map_len _)),zp rfl (op_callP _ _ _ _ 19 55 [.tmp 16] [.tmp 18, _] _ _ _ rfl call55 rfl rfl rfl (ok_shrink_writer_put (T_shrink_writer.mk v2.b v4) (b.length : Int) 16 _ hv5) (zl rfl) rfl rfl rfl rfl rfl rfl rfl rfl),zz⟩ ?_
   refine pt_then (ht_seq ?_)
   obtain ⟨v6, hv6, h⟩ := zn h
   obtain ⟨v7, hv7, h⟩ := zn h
   refine zg hn [_,_,(20,.ptr 3 0),(21,fb b),(22,vi (b.length : Int)),(23,vi v6),(24,.tup []),(3,.box 57 [.fl (.own 5) 1 (map (int .u8) v7.b),vi v7.n])] [0,1] [0,7] [zq [1] 2 20,zq [0] 3 21,zq [3] 4 22,zq [4] 5 23,⟨[2,5],[1],[7,6],[(.slot 24),(.cell 3 0),(.cell 3 1)]⟩] [(_,_),(_,_)] rfl ⟨z1 rfl,z1 rfl,zp rfl (op_len_fl _ _ _ underlying22 rfl (by decide) (map_len _)),zp rfl (oB rfl (ibind (f := int .i64) (Option.some.inj hv6))),zp rfl (op_callP _ _ _ _ 24 55 [.tmp 20] [.tmp 23, _] _ _ _ rfl call55 rfl rfl rfl (ok_shrink_writer_put v5 v6 16 _ hv7) (zl rfl) rfl rfl rfl rfl rfl rfl rfl rfl),zz⟩ ?_
   refine pt_then (ht_seq ?_)
   refine zgg hn [_,_,(25,fb b),(26,vi (b.length : Int)),(27,vi 0)] [0,1] [1,2,3,4] [zq [0] 2 25,zq [2] 3 26,zq [] 4 27] [(_,_),(_,_),(_,_),(_,_)] rfl ⟨z1 rfl,zp rfl (op_len_fl _ _ _ underlying22 rfl (by decide) (map_len _)),z1 rfl,zz⟩ ?_
   refine ht_loopS h (fun ((s18,s19,s20) : (List Int) × Int × Int) => [(3,.box 57 [.fl (.own 5) 1 (map (int .u8) s18),vi s19]),(25,fb b),(26,vi (b.length : Int)),(27,vi s20)]) (fun ((s22,s23) : (List Int) × Int) => [(3,.box 57 [.fl (.own 5) 1 (map (int .u8) s22),vi s23])]) ?_ ?_
   ·rintro ⟨s22, s23⟩ h
    refine pt_then ?_
    refine zgg hn [_,(36,.box 57 [.fl (.own 5) 1 (map (int .u8) s22),vi s23]),(2,.box 57 [.fl (.own 5) 1 (map (int .u8) s22),vi s23])] [0] [2] [⟨[],[0],[1],[(.slot 36)]⟩,⟨[],[1],[2],[(.slot 2)]⟩] [(_,_)] rfl ⟨zp rfl (op_move_take _ _ _ _ rfl),zp rfl (op_assign_take _ _ _ _ rfl),zz⟩ ?_
    refine ht_ret ?_
    refine pt_sub (fs := [(2,.obox true 57 [.fl (.own 5) 1 (map (int .u8) s22),vi s23])]) (.sub _ (sub_ob_box 57 (subs_refl _)) rfl .nil) ?_
    obtain rfl := zi h
    exact pt_ret hio rfl (.tmp _ _ .nil) rfl rfl
   ·rintro u24 hl25 hr26 ⟨s18, s19, s20⟩ rr29 h ho27
    refine zgg hn [_,_,_,_,(28,vb (decide (s20 < (b.length : Int))))] [0,1,2,3] [0,1,2,3,4] [zq [3,2] 4 28] [(_,_),(_,_),(_,_),(_,_),(_,_)] rfl ⟨z4 rfl rfl,zz⟩ ?_
    refine ht_seq ?_
    refine ht_cond _ rfl (fun hb30 => ?_) (fun hb30 => ?_)
    ·have h := cond_t hb30 h
     refine ht_skip ?_
     refine pt_then (ht_seq ?_)
     refine ht_block ?_
     refine ht_seq ?_
     obtain ⟨v9, hv9, h⟩ := zn h
     obtain ⟨v10, hv10, h⟩ := zn h
     refine zg hn [_,_,_,_,_,(29,.eref (.slot 25) (v9 * 1)),(30,.v (.int .u8 v10)),(5,.v (.int .u8 v10))] [0,1,2,3,4] [0,1,2,3,7] [zq [1,3] 5 29,zq [5,1] 6 30,zq [6] 7 5] [(_,_),(_,_),(_,_),(_,_),(_,_)] rfl ⟨zp rfl (op_ix _ _ _ _ _ _ _ _ underlying22 sz5 (by decide) rfl rfl rfl (ix_ok hv9).1 (map_lt (ix_ok hv9).2) rfl),zp rfl (op_load_e _ _ _ _ _ _ underlying5 rfl rfl rfl (map_get hv10)),z2 rfl,zz⟩ ?_
     refine pt_then ?_
     obtain ⟨v11, hv11, h⟩ := zn h
     obtain ⟨v12, hv12, h⟩ := zn h
     refine zg hn [_,_,_,_,_,(31,.ptr 3 0),(32,.v (.int .u8 v10)),(33,vi v11),(34,.tup []),(3,.box 57 [.fl (.own 5) 1 (map (int .u8) v12.b),vi v12.n])] [0,1,2,3,4] [9,1,2,3] [zq [0] 5 31,zq [4] 6 32,zq [6] 7 33,⟨[5,7],[0],[9,8],[(.slot 34),(.cell 3 0),(.cell 3 1)]⟩] [(_,_),(_,_),(_,_),(_,_)] rfl ⟨z1 rfl,z1 rfl,zp rfl ((Option.some.inj hv11) ▸ op_conv _ _ _ underlying5 underlying3 rfl),zp rfl (op_callP _ _ _ _ 34 55 [.tmp 31] [.tmp 33, _] _ _ _ rfl call55 rfl rfl rfl (ok_shrink_writer_put (T_shrink_writer.mk s18 s19) v11 8 _ hv12) (zl rfl) rfl rfl rfl rfl rfl rfl rfl rfl),zz⟩ ?_
     refine pt_inb ?_
     refine pt_then ?_
     obtain ⟨v13, hv13, h⟩ := zn h
     refine zg hn [_,_,_,_,(35,vi v13),(27,vi v13)] [0,1,2,3] [0,1,2,5] [zq [3] 4 35,⟨[4],[3],[5],[(.slot 27)]⟩] [(_,_),(_,_),(_,_),(_,_)] rfl ⟨zp rfl (oB rfl (ibind (f := int .i64) (Option.some.inj hv13))),zp rfl (LOp.drop [_] (oM rfl)),zz⟩ ?_
     exact pt_next _ (zi h).symm rfl
    ·have h := cond_f hb30 h
     refine ht_exit ?_
     refine pt_x_then ?_
     refine pt_x_then ?_
     refine pt_x_in ?_
     refine pt_pick [0] (by kernel_rfl) (es' := [(_,_)]) rfl ?_
     exact hl25 _ (ho27 _ (zi h).symm).symm
  ·cases h
theorem ok_shrink_Stored (b : (List Int)) (r : ((List Int) × Int)) (h : Sh.shrink_Stored b = some r) : FnOK Tryd.prog 13 [.fl .shr 1 (map (int .u8) b)] (.tup [.fl (.own 5) 1 (map (int .u8) r.1), .v (.int .i64 r.2)]) := by
  unfold Sh.shrink_Stored at h
  refine fn_ok func13 rfl (zl rfl) rfl rfl fun g0 hn hio => ?_
  refine zgg hn [_,(2,vz),(3,vi 0)] [0] [0] [zq [] 1 2,zq [] 2 3] [(_,_)] rfl ⟨z2 rfl,z2 rfl,zz⟩ ?_
  refine ht_seq ?_
  refine zgg hn [_,(4,fb b),(5,vi (b.length : Int)),(6,vb (decide (4096 < (b.length : Int))))] [0] [0,3] [zq [0] 1 4,zq [1] 2 5,zq [2] 3 6] [(_,_),(_,_)] rfl ⟨z1 rfl,zp rfl (op_len_fl _ _ _ underlying22 rfl (by decide) (map_len _)),z4 rfl rfl,zz⟩ ?_
  refine ht_cond _ rfl (fun hb1 => ?_) (fun hb1 => ?_)
  ·have h := cond_t hb1 h
   refine zgg hn [_,_,(2,vz),(3,vi 2)] [0,1] [2,3] [zq [] 2 2,zq [] 3 3] [(_,_),(_,_)] rfl ⟨z2 rfl,z2 rfl,zz⟩ ?_
   refine ht_ret ?_
   refine pt_sub (fs := [(2,.fl (.own 5) 1 (map (int .u8) [])),(3,vi 2)]) (.sub _ (sub_nil 5 1) rfl (.same _ .nil)) ?_
   refine pt_r_then ?_
   obtain rfl := zi h
   exact pt_ret hio rfl (.tmp _ _ (.tmp _ _ .nil)) rfl rfl
  ·have h := cond_f hb1 h
   refine ht_skip ?_
   refine pt_then (ht_seq ?_)
   obtain ⟨v2, hv2, h⟩ := zn h
   obtain ⟨v3, hv3, h⟩ := zn h
   refine zg hn [_,_,(7,fb b),(8,.obox (Option.isSome v2) 57 [.fl (.own 5) 1 (map (int .u8) (((Option.getD v2 (default : T_shrink_writer))).b)),vi (((Option.getD v2 (default : T_shrink_writer))).n)]),(9,.ptr 8 0),(8,.box 57 [.fl (.own 5) 1 (map (int .u8) v3.b),vi v3.n]),(10,.ptr 8 0),(11,.same (.cell 8 0)),(2,.fl (.own 5) 1 (map (int .u8) v3.b)),(8,.box 57 [.any,vi v3.n]),(3,vi 0)] [0,1] [8,10] [zq [0] 2 7,zq [2] 3 8,⟨[],[3],[5,4],[(.slot 9),(.cell 8 0),(.cell 8 1)]⟩,zq [4,5] 6 10,zq [6,5] 7 11,⟨[7],[5],[9,8],[(.slot 2)]⟩,zq [] 10 3] [(_,_),(_,_)] rfl ⟨z1 rfl,zp rfl (op_call _ _ 33 _ _ rfl call33 rfl (ok_shrink_storedBlock b _ hv2) rfl rfl),zp rfl (op_nilCheck_ob _ 9 8 2 (by rw [hv3]; rfl) (by rw [hv3]; rfl) rfl (by decide) rfl rfl),zp rfl (oF underlying57 rfl sz22),zp rfl (oL underlying22 rfl),zp rfl (op_assign_cell _ 2 8 0 rfl rfl (zl rfl) rfl (by decide) rfl),z2 rfl,zz⟩ ?_
   refine pt_then (ht_ret ?_)
   obtain rfl := zi h
   exact pt_ret hio rfl (.tmp _ _ (.tmp _ _ .nil)) rfl rfl
theorem ok_match_newIndex_sh (b : (List Int)) (from_ : Int) (r : (Option T_match_index)) (h : Sh.match_newIndex_sh b from_ = some r) : FnOK Tryd.prog 56 [.fl .shr 1 (map (int .u8) b), .v (.int .i64 from_)] (.obox (Option.isSome r) 103 [.fl .shr 1 (map (int .u8) (((Option.getD r (default : T_match_index))).b)), .hid (mapT Tryd.prog 105 3 (((Option.getD r (default : T_match_index))).last)), .fl (.own 3) 1 (map (int .i64) (((Option.getD r (default : T_match_index))).back)), .v (.int .i64 (((Option.getD r (default : T_match_index))).from_))]) := by
  unfold Sh.match_newIndex_sh at h
  refine fn_ok func56 rfl (zl rfl) rfl rfl fun g0 hn hio => ?_
  refine zgg hn [_,_,(4,.v (.pointer none))] [0,1] [0,1] [zq [] 2 4] [(_,_),(_,_)] rfl ⟨z2 rfl,zz⟩ ?_
  refine zgg hn [_,_,(5,fb b),(6,.hid (mapT Tryd.prog 105 3 [])),(7,vi from_),(8,.agg [fb b,.hid (mapT Tryd.prog 105 3 []),vz,vi from_]),(9,.box 103 [fb b,.hid (mapT Tryd.prog 105 3 []),vz,vi from_]),(4,.box 103 [fb b,.hid (mapT Tryd.prog 105 3 []),vz,vi from_])] [0,1] [7] [zq [0] 2 5,zq [] 3 6,zq [1] 4 7,⟨[2,4],[3],[5],[(.slot 8)]⟩,⟨[],[5],[6],[(.slot 9)]⟩,⟨[],[6],[7],[(.slot 4)]⟩] [(_,_)] rfl ⟨z1 rfl,zp rfl (op_makeMap _ _),z1 rfl,zp rfl (op_build _ _ _ _ [1, 1, 1, 1] _ _ underlying103 zr103 (fs103 _ underlying103) (.copy _ (.take _ _ (.copy _ Src.nil))) rfl rfl rfl),zp rfl (op_box_take _ _ _ _ _ rfl rfl rfl),zp rfl (op_assign_take _ _ _ _ rfl),zz⟩ ?_
  refine ht_ret ?_
  refine pt_sub (fs := [(4,.obox true 103 [fb b,.hid (mapT Tryd.prog 105 3 []),.fl (.own 3) 1 (map (int .i64) []),vi from_])]) (.sub _ (sub_ob_box 103 (subs_cons (sub_refl _) (subs_cons (sub_refl _) (subs_cons (sub_nil 3 1) (subs_cons (sub_refl _) (subs_nil)))))) rfl .nil) ?_
  obtain rfl := zi h
  exact pt_ret hio rfl (.tmp _ _ .nil) rfl rfl
theorem ok_match_index_startAt (x : T_match_index) (at_ : Int) (r : ((List Int) × Bool × T_match_index)) (h : Sh.match_index_startAt x at_ = some r) : FnP Tryd.prog 79 [.box 103 [.fl .shr 1 (map (int .u8) x.b), .hid (mapT Tryd.prog 105 3 x.last), .fl (.own 3) 1 (map (int .i64) x.back), .v (.int .i64 x.from_)], .v (.int .i64 at_)] [.box 103 [.fl .shr 1 (map (int .u8) r.2.2.b), .hid (mapT Tryd.prog 105 3 r.2.2.last), .fl (.own 3) 1 (map (int .i64) r.2.2.back), .v (.int .i64 r.2.2.from_)]] (.tup [.v (.agg (map (int .u8) r.1).toArray), .v (.bool r.2.1)]) := by
  unfold Sh.match_index_startAt at h
  refine fn_okP func79 rfl (zl rfl) rfl (zl rfl) fun args0 hargs0 g0 hn hio => ?_
  refine zgg hn [_,_,_,(4,.arr 105 (map (int .u8) ((List.replicate 3 (0 : Int))))),(5,vb false)] [0,1,2] [0,1,2,3] [zq [] 3 4,zq [] 4 5] [(_,_),(_,_),(_,_),(_,_)] rfl ⟨zp rfl (op_alloc_arr _ za105),z2 rfl,zz⟩ ?_
  refine ht_seq ?_
  refine ht_seq ?_
  obtain ⟨v1, hv1, h⟩ := zn h
  refine zg hn [_,_,_,_,(6,vi at_),(7,vi v1),(8,.ptr 0 0),(9,.ptr 0 0),(10,.ptr 0 0),(11,fb x.b),(12,vi (x.b.length : Int)),(13,vb (decide ((x.b.length : Int) < v1)))] [0,1,2,3] [0,1,2,3,11] [zq [1] 4 6,zq [4] 5 7,zq [0] 6 8,zq [6,0] 7 9,zq [7,0] 8 10,zq [8,0] 9 11,zq [9] 10 12,zq [5,10] 11 13] [(_,_),(_,_),(_,_),(_,_),(_,_)] rfl ⟨z1 rfl,zp rfl (oB rfl (ibind (f := int .i64) (Option.some.inj hv1))),z1 rfl,zp rfl (op_nilCheck _ _ _ 0 0 rfl (by decide)),zp rfl (oF underlying103 rfl sz22),zp rfl (oL underlying22 rfl),zp rfl (op_len_fl _ _ _ underlying22 rfl (by decide) (map_len _)),z4 rfl rfl,zz⟩ ?_
  refine pt_then ?_
  refine ht_cond _ rfl (fun hb2 => ?_) (fun hb2 => ?_)
  ·have h := cond_t hb2 h
   refine ht_seq ?_
   obtain ⟨v3, hv3, h⟩ := zn h
   obtain ⟨v4, hv4, h⟩ := zn h
   refine zg hn [_,_,_,_,_,(14,.v (.agg (map (int .u8) (([(0 : Int),(0 : Int),(0 : Int)] : List Int))).toArray)),(4,.arr 105 (map (int .u8) (([(0 : Int),(0 : Int),(0 : Int)] : List Int)))),(5,vb false)] [0,1,2,3,4] [0,2,6,7] [zq [] 5 14,⟨[5],[3],[6],[]⟩,zq [] 7 5] [(_,_),(_,_),(_,_),(_,_)] rfl ⟨zp rfl (op_build_arr _ _ (.agg #[.int .u8 0, .int .u8 0, .int .u8 0]) (map (int .u8) (([(0 : Int), (0 : Int), (0 : Int)] : List Int))) [] underlying105 sz5 zr105 (fun _ V w o a hv hes => by simp only [List.map_toArray, List.map_cons, List.map_nil]; try rfl) (litfill (by simp [Instr.fill, Value.cells]; rfl) (by simp))),zp rfl (op_storeA_arr _ _ _ _ (sz105.trans (congrArg some (ln_len hv4))) rfl rfl (ln_ones (fun _ => rfl) _) ((ln_len (f := int .u8) hv3).symm.trans (ln_len (f := int .u8) hv4))),z2 rfl,zz⟩ ?_
   refine pt_then (ht_ret ?_)
   obtain ⟨v5, hv5, h⟩ := zn h
   refine pt_pick [2,3,0,1] (by kernel_rfl) (es' := [(_,_),(_,_),(_,_),(_,_)]) rfl ?_
   refine pt_r_then ?_
   obtain rfl := zi h
   exact pt_retP (es := [(4, .arr 105 (map (int .u8) (([(0 : Int), (0 : Int), (0 : Int)] : List Int)))), (5, .v (.bool false))]) (posts := [.box 103 [fb x.b, .hid (mapT Tryd.prog 105 3 x.last), .fl (.own 3) 1 (map (int .i64) x.back), .v (.int .i64 x.from_)]]) hio rfl rfl (.cellR _ _ _ _ underlying105 rfl (sz105.trans (congrArg some (ln_len hv5))) (.tmp _ _ .nil)) rfl rfl hargs0 rfl
  ·have h := cond_f hb2 h
   refine ht_skip ?_
   refine pt_then (ht_seq ?_)
   obtain ⟨v6, hv6, h⟩ := zn h
   obtain ⟨v7, hv7, h⟩ := zn h
   obtain ⟨v8, hv8, h⟩ := zn h
   obtain ⟨v9, hv9, h⟩ := zn h
   obtain ⟨v10, hv10, h⟩ := zn h
   refine zg hn (_::_::_::_::_::(15,.ptr 0 0)::(16,.ptr 0 0)::(17,.ptr 0 0)::(18,fb x.b)::(19,vi at_)::(20,vi at_)::(21,vi v6)::(22,fb v7)::(23,.eref (.slot 22) 0)::(24,.v (.agg (map (int .u8) v8).toArray))::(4,.arr 105 (map (int .u8) v8))::(5,vb true)::[]) [0,1,2,3,4] [0,2,15,16] [zq [0] 5 15,zq [5,0] 6 16,zq [6,0] 7 17,zq [7,0] 8 18,zq [1] 9 19,zq [1] 10 20,zq [10] 11 21,zq [8,9,11] 12 22,zq [12] 13 23,zq [13,12] 14 24,⟨[14],[3],[15],[]⟩,zq [] 16 5] [(_,_),(_,_),(_,_),(_,_)] rfl ⟨z1 rfl,zp rfl (op_nilCheck _ _ _ 0 0 rfl (by decide)),zp rfl (oF underlying103 rfl sz22),zp rfl (oL underlying22 rfl),z1 rfl,z1 rfl,zp rfl (oB rfl (ibind (f := int .i64) (Option.some.inj hv6))),zp rfl (op_sl _ _ _ at_ v6 _ underlying22 sz5 rfl rfl ⟨_, rfl⟩ ⟨_, rfl⟩ hv7),zp rfl (op_arrayAt _ _ 22 3 underlying105 rfl (arr_map (f := int .u8) hv8).2.2 (by decide) rfl),zp rfl (op_load_eV _ _ _ (.slot 22) 0 3 _ underlying105 rfl sz105 rfl rfl (arr_map (f := int .u8) hv8).1 (arr_map (f := int .u8) hv8).2.1 (by decide)),zp rfl (op_storeA_arr _ _ _ _ (sz105.trans (congrArg some (ln_len hv10))) rfl rfl (ln_ones (fun _ => rfl) _) ((ln_len (f := int .u8) hv9).symm.trans (ln_len (f := int .u8) hv10))),z2 rfl,zz⟩ ?_
   refine pt_then (ht_ret ?_)
   obtain ⟨v11, hv11, h⟩ := zn h
   refine pt_pick [2,3,0,1] (by kernel_rfl) (es' := [(_,_),(_,_),(_,_),(_,_)]) rfl ?_
   obtain rfl := zi h
   exact pt_retP (es := [(4, .arr 105 (map (int .u8) v8)), (5, .v (.bool true))]) (posts := [.box 103 [fb x.b, .hid (mapT Tryd.prog 105 3 x.last), .fl (.own 3) 1 (map (int .i64) x.back), .v (.int .i64 x.from_)]]) hio rfl rfl (.cellR _ _ _ _ underlying105 rfl (sz105.trans (congrArg some (ln_len hv11))) (.tmp _ _ .nil)) rfl rfl hargs0 rfl
theorem ok_match_index_common (x : T_match_index) (p : Int) (at_ : Int) (r : (Int × T_match_index)) (h : Sh.match_index_common x p at_ = some r) : FnP Tryd.prog 80 [.box 103 [.fl .shr 1 (map (int .u8) x.b), .hid (mapT Tryd.prog 105 3 x.last), .fl (.own 3) 1 (map (int .i64) x.back), .v (.int .i64 x.from_)], .v (.int .i64 p), .v (.int .i64 at_)] [.box 103 [.fl .shr 1 (map (int .u8) r.2.b), .hid (mapT Tryd.prog 105 3 r.2.last), .fl (.own 3) 1 (map (int .i64) r.2.back), .v (.int .i64 r.2.from_)]] (.v (.int .i64 r.1)) := by
  unfold Sh.match_index_common at h
  refine fn_okP func80 rfl (zl rfl) rfl (zl rfl) fun args0 hargs0 g0 hn hio => ?_
  refine zgg hn [_,_,_,_,(6,vi 0)] [0,1,2,3] [0,1,2,3] [zq [] 4 6] [(_,_),(_,_),(_,_),(_,_)] rfl ⟨z2 rfl,zz⟩ ?_
  refine ht_seq ?_
  obtain ⟨v1, hv1, h⟩ := zn h
  obtain ⟨v2, hv2, h⟩ := zn h
  refine zg hn [_,_,_,_,(9,.ptr 0 0),(10,.ptr 0 0),(11,.ptr 0 0),(12,fb x.b),(13,vi (x.b.length : Int)),(14,vi at_),(15,vi v1),(16,vi v2),(7,vi v2)] [0,1,2,3] [0,1,2,3,12] [zq [0] 4 9,zq [4,0] 5 10,zq [5,0] 6 11,zq [6,0] 7 12,zq [7] 8 13,zq [2] 9 14,zq [8,9] 10 15,zq [10] 11 16,zq [11] 12 7] [(_,_),(_,_),(_,_),(_,_),(_,_)] rfl ⟨z1 rfl,zp rfl (op_nilCheck _ _ _ 0 0 rfl (by decide)),zp rfl (oF underlying103 rfl sz22),zp rfl (oL underlying22 rfl),zp rfl (op_len_fl _ _ _ underlying22 rfl (by decide) (map_len _)),z1 rfl,zp rfl (oB rfl (ibind (f := int .i64) (Option.some.inj hv1))),zp rfl ((Option.some.inj hv2) ▸ op_min _ _ _ _ rfl rfl),z2 rfl,zz⟩ ?_
  refine pt_then ?_
  refine zgg hn [_,_,_,_,_,(8,vi 3)] [0,1,2,3,4] [0,1,2,3,4,5] [zq [] 5 8] [(_,_),(_,_),(_,_),(_,_),(_,_),(_,_)] rfl ⟨z2 rfl,zz⟩ ?_
  refine ht_seq ?_
  refine ht_loopS h (fun (s21 : Int) => [(0,.box 103 [fb x.b,.hid (mapT Tryd.prog 105 3 x.last),.fl (.own 3) 1 (map (int .i64) x.back),vi x.from_]),(1,vi p),(2,vi at_),(0,.v (List.getD args0 0 undef)),(7,vi v2),(8,vi s21)]) (fun (s27 : Int) => [(0,.box 103 [fb x.b,.hid (mapT Tryd.prog 105 3 x.last),.fl (.own 3) 1 (map (int .i64) x.back),vi x.from_]),(0,.v (List.getD args0 0 undef)),(8,vi s27)]) ?_ ?_
  ·rintro s27 h
   refine pt_then ?_
   refine zgg hn [_,_,_,(43,vi s27),(6,vi s27)] [0,1,2] [0,1,4] [zq [2] 3 43,zq [3] 4 6] [(_,_),(_,_),(_,_)] rfl ⟨z1 rfl,z2 rfl,zz⟩ ?_
   refine ht_ret ?_
   refine pt_pick [2,0,1] (by kernel_rfl) (es' := [(_,_),(_,_),(_,_)]) rfl ?_
   obtain rfl := zi h
   exact pt_retP (es := [(6, .v (.int .i64 s27))]) (posts := [.box 103 [fb x.b, .hid (mapT Tryd.prog 105 3 x.last), .fl (.own 3) 1 (map (int .i64) x.back), .v (.int .i64 x.from_)]]) hio rfl rfl (.tmp _ _ .nil) rfl rfl hargs0 rfl
  ·rintro u28 hl29 hr30 s21 rr33 h ho31
   refine ht_seq ?_
   refine ht_seq ?_
   refine ht_joinS h (fun (s34 : Bool) => [(0,.box 103 [fb x.b,.hid (mapT Tryd.prog 105 3 x.last),.fl (.own 3) 1 (map (int .i64) x.back),vi x.from_]),(1,vi p),(2,vi at_),(0,.v (List.getD args0 0 undef)),(7,vi v2),(8,vi s21),(40,vb s34)]) ?_ ?_
   ·rintro s34 h
    refine pt_then ?_
    refine ht_cond _ rfl (fun hb38 => ?_) (fun hb38 => ?_)
    ·have h := cond_t hb38 h
     refine ht_skip ?_
     refine pt_then ?_
     refine ht_block ?_
     obtain ⟨v14, hv14, h⟩ := zn h
     refine zg hn [_,_,_,_,_,_,_,(41,vi s21),(42,vi v14),(8,vi v14)] [0,1,2,3,4,5,6] [0,1,2,3,4,9] [zq [5] 7 41,zq [7] 8 42,⟨[8],[5],[9],[(.slot 8)]⟩] [(_,_),(_,_),(_,_),(_,_),(_,_),(_,_)] rfl ⟨z1 rfl,zp rfl (oB rfl (ibind (f := int .i64) (Option.some.inj hv14))),zp rfl (LOp.drop [_] (op_assign _ _ _ _ rfl rfl)),zz⟩ ?_
     refine pt_inb ?_
     exact pt_next _ (zi h).symm rfl
    ·have h := cond_f hb38 h
     refine ht_exit ?_
     refine pt_x_then ?_
     refine pt_x_then ?_
     refine pt_x_in ?_
     refine pt_pick [0,3,5] (by kernel_rfl) (es' := [(_,_),(_,_),(_,_)]) rfl ?_
     exact hl29 _ (ho31 _ (zi h).symm).symm
   ·intro u35 h hl36 hr37
    refine cond_some h (fun hg3_3 h => ?_) (fun hg3_3 h => ?_)
    ·obtain ⟨v3, hv3, h⟩ := zn h
     obtain ⟨v4, hv4, h⟩ := zn h
     obtain ⟨v5, hv5, h⟩ := zn h
     obtain ⟨v6, hv6, h⟩ := zn h
     obtain ⟨v7, hv7, h⟩ := zn h
     obtain ⟨v8, hv8, h⟩ := zn h
     refine ht_anyR (by kernel_rfl) hn (El := (_ :: _ :: _ :: _ :: _ :: _ :: (17,vi s21) :: (18,vi v2) :: (19,vb (decide (s21 < v2))) :: (20,vb true) :: (21,.same (.slot 0)) :: (22,.ptr 0 0) :: (23,.ptr 0 0) :: (24,fb x.b) :: (25,vi p) :: (26,vi s21) :: (27,vi v3) :: (28,.eref (.slot 24) (v4 * 1)) :: (29,.v (.int .u8 v5)) :: (30,.same (.slot 0)) :: (31,.ptr 0 0) :: (32,.ptr 0 0) :: (33,fb x.b) :: (34,vi at_) :: (35,vi s21) :: (36,vi v6) :: (37,.eref (.slot 33) (v7 * 1)) :: (38,.v (.int .u8 v8)) :: (39,vb (v5 == v8)) :: (40,vb (v5 == v8)) :: [])) (init := [0,1,2,3,4,5]) (fin := [0,1,2,3,4,5,29]) (sps := (zq [5] 6 17 :: zq [4] 7 18 :: zq [6,7] 8 19 :: zq [8] 9 20 :: zq [9] 10 21 :: zq [9,10,0] 11 22 :: zq [9,11,0] 12 23 :: zq [9,12,0] 13 24 :: zq [9,1] 14 25 :: zq [9,5] 15 26 :: zq [9,14,15] 16 27 :: zq [9,13,16] 17 28 :: zq [9,17,13] 18 29 :: zq [9] 19 30 :: zq [9,19,0] 20 31 :: zq [9,20,0] 21 32 :: zq [9,21,0] 22 33 :: zq [9,2] 23 34 :: zq [9,5] 24 35 :: zq [9,23,24] 25 36 :: zq [9,22,25] 26 37 :: zq [9,26,22] 27 38 :: zq [9,18,27] 28 39 :: zq [9,28] 29 40 :: [])) (es' := [(_,_),(_,_),(_,_),(_,_),(_,_),(_,_),(40,vb (v5 == v8))]) (by kernel_rfl) rfl rfl ⟨z1 rfl,z1 rfl,z4 rfl rfl,z8 hg3_3 rfl,zr' rfl (op_move_name _ _ _ rfl),zr' rfl (op_nilCheck_name _ _ _ 0 rfl rfl (by decide)),zr' rfl (oF underlying103 rfl sz22),zr' rfl (oL underlying22 rfl),zr' rfl (oM rfl),zr' rfl (oM rfl),zr' rfl (oB rfl (ibind (f := int .i64) (Option.some.inj hv3))),zr' rfl (op_ix _ _ _ _ _ _ _ _ underlying22 sz5 (by decide) rfl rfl rfl (ix_ok hv4).1 (map_lt (ix_ok hv4).2) rfl),zr' rfl (op_load_e _ _ _ _ _ _ underlying5 rfl rfl rfl (map_get hv5)),zr' rfl (op_move_name _ _ _ rfl),zr' rfl (op_nilCheck_name _ _ _ 0 rfl rfl (by decide)),zr' rfl (oF underlying103 rfl sz22),zr' rfl (oL underlying22 rfl),zr' rfl (oM rfl),zr' rfl (oM rfl),zr' rfl (oB rfl (ibind (f := int .i64) (Option.some.inj hv6))),zr' rfl (op_ix _ _ _ _ _ _ _ _ underlying22 sz5 (by decide) rfl rfl rfl (ix_ok hv7).1 (map_lt (ix_ok hv7).2) rfl),zr' rfl (op_load_e _ _ _ _ _ _ underlying5 rfl rfl rfl (map_get hv8)),zr' rfl (oB rfl rfl),z3 true rfl,zz⟩ ?_
     exact hl36 _ (zi h).symm
    ·refine ht_anyR (by kernel_rfl) hn (El := (_ :: _ :: _ :: _ :: _ :: _ :: (17,vi s21) :: (18,vi v2) :: (19,vb (decide (s21 < v2))) :: (20,vb false) :: (21,.v undef) :: (22,.v undef) :: (23,.v undef) :: (24,.v undef) :: (25,.v undef) :: (26,.v undef) :: (27,.v undef) :: (28,.v undef) :: (29,.v undef) :: (30,.v undef) :: (31,.v undef) :: (32,.v undef) :: (33,.v undef) :: (34,.v undef) :: (35,.v undef) :: (36,.v undef) :: (37,.v undef) :: (38,.v undef) :: (39,.v undef) :: (40,vb false) :: [])) (init := [0,1,2,3,4,5]) (fin := [0,1,2,3,4,5,29]) (sps := (zq [5] 6 17 :: zq [4] 7 18 :: zq [6,7] 8 19 :: zq [8] 9 20 :: zq [9] 10 21 :: zq [9] 11 22 :: zq [9] 12 23 :: zq [9] 13 24 :: zq [9] 14 25 :: zq [9] 15 26 :: zq [9] 16 27 :: zq [9] 17 28 :: zq [9] 18 29 :: zq [9] 19 30 :: zq [9] 20 31 :: zq [9] 21 32 :: zq [9] 22 33 :: zq [9] 23 34 :: zq [9] 24 35 :: zq [9] 25 36 :: zq [9] 26 37 :: zq [9] 27 38 :: zq [9] 28 39 :: zq [9] 29 40 :: [])) (es' := [(_,_),(_,_),(_,_),(_,_),(_,_),(_,_),(40,vb false)]) (by kernel_rfl) rfl rfl ⟨z1 rfl,z1 rfl,z4 rfl rfl,z8 hg3_3 rfl,zt rfl,zt rfl,zt rfl,zt rfl,zt rfl,zt rfl,zt rfl,zt rfl,zt rfl,zt rfl,zt rfl,zt rfl,zt rfl,zt rfl,zt rfl,zt rfl,zt rfl,zt rfl,zt rfl,z3 false rfl,zz⟩ ?_
     exact hl36 _ (zi h).symm
theorem ok_match_index_best (x : T_match_index) (at_ : Int) (r : (Int × Int × T_match_index)) (h : Sh.match_index_best x at_ = some r) : FnP Tryd.prog 57 [.box 103 [.fl .shr 1 (map (int .u8) x.b), .hid (mapT Tryd.prog 105 3 x.last), .fl (.own 3) 1 (map (int .i64) x.back), .v (.int .i64 x.from_)], .v (.int .i64 at_)] [.box 103 [.fl .shr 1 (map (int .u8) r.2.2.b), .hid (mapT Tryd.prog 105 3 r.2.2.last), .fl (.own 3) 1 (map (int .i64) r.2.2.back), .v (.int .i64 r.2.2.from_)]] (.tup [.v (.int .i64 r.1), .v (.int .i64 r.2.1)]) := by
  unfold Sh.match_index_best at h
  refine fn_okP func57 rfl (zl rfl) rfl (zl rfl) fun args0 hargs0 g0 hn hio => ?_
  refine zgg hn [_,_,_,(4,vi 0),(5,vi 0)] [0,1,2] [0,1,2,3,4] [zq [] 3 4,zq [] 4 5] [(_,_),(_,_),(_,_),(_,_),(_,_)] rfl ⟨z2 rfl,z2 rfl,zz⟩ ?_
  refine ht_seq ?_
  obtain ⟨v1, hv1, h⟩ := zn h
  obtain ⟨v2, hv2, h⟩ := zn h
  obtain ⟨v3, hv3, h⟩ := zn h
  refine zg hn (_::_::_::_::_::(11,.ptr 0 0)::(12,vi at_)::(13,.tup [.v (.agg (map (int .u8) v1.1).toArray),vb v1.2.1])::(0,.box 103 [fb v1.2.2.b,.hid (mapT Tryd.prog 105 3 v1.2.2.last),.fl (.own 3) 1 (map (int .i64) v1.2.2.back),vi v1.2.2.from_])::(10,.tup [.v (.agg (map (int .u8) v1.1).toArray),vb v1.2.1])::(14,.v (.agg (map (int .u8) v1.1).toArray))::(15,vb v1.2.1)::(6,.arr 105 (map (int .u8) ((List.replicate 3 (0 : Int)))))::(6,.arr 105 (map (int .u8) v1.1))::(7,vb v1.2.1)::[]) [0,1,2,3,4] [8,1,2,3,4,13,14] [zq [0] 5 11,zq [1] 6 12,⟨[5,6],[0],[8,7],[(.slot 13),(.cell 0 0),(.cell 0 1),(.cell 0 2),(.cell 0 3)]⟩,⟨[],[7],[9],[(.slot 10)]⟩,zq [9] 10 14,zq [9] 11 15,zq [] 12 6,⟨[10],[12],[13],[]⟩,zq [11] 14 7] [(_,_),(_,_),(_,_),(_,_),(_,_),(_,_),(_,_)] rfl ⟨z1 rfl,z1 rfl,zp rfl (op_callPS _ _ _ _ 13 79 [.tmp 11] [.tmp 12] _ _ _ rfl call79 rfl rfl rfl (ok_match_index_startAt x at_ _ hv1) (zl rfl) rfl rfl rfl rfl rfl rfl rfl),zp rfl (op_move_take _ _ _ _ rfl),zp rfl (oE rfl),zp rfl (oE rfl),zp rfl (op_alloc_arr _ za105),zp rfl (op_storeA_arr _ _ _ _ (sz105.trans (congrArg some (ln_len hv3))) rfl rfl (ln_ones (fun _ => rfl) _) ((ln_len (f := int .u8) hv2).symm.trans (ln_len (f := int .u8) hv3))),z2 rfl,zz⟩ ?_
  refine pt_then (ht_seq ?_)
  refine zgg hn [_,_,_,_,_,_,_,(16,vb v1.2.1),(17,vb (!v1.2.1))] [0,1,2,3,4,5,6] [0,1,2,3,4,5,8] [zq [6] 7 16,zq [7] 8 17] [(_,_),(_,_),(_,_),(_,_),(_,_),(_,_),(_,_)] rfl ⟨z1 rfl,zp rfl (op_un _ _ _ _ rfl rfl),zz⟩ ?_
  refine ht_cond _ rfl (fun hb4 => ?_) (fun hb4 => ?_)
  ·have h := cond_t hb4 h
   refine zgg hn [_,_,_,_,_,_,_,(4,vi 0),(5,vi 0)] [0,1,2,3,4,5,6] [0,2,7,8] [⟨[],[3],[7],[(.slot 4)]⟩,⟨[],[4],[8],[(.slot 5)]⟩] [(_,_),(_,_),(_,_),(_,_)] rfl ⟨zp rfl (LOp.drop [_] (op_assign _ _ _ _ rfl rfl)),zp rfl (LOp.drop [_] (op_assign _ _ _ _ rfl rfl)),zz⟩ ?_
   refine ht_ret ?_
   refine pt_pick [2,3,0,1] (by kernel_rfl) (es' := [(_,_),(_,_),(_,_),(_,_)]) rfl ?_
   refine pt_r_then ?_
   obtain rfl := zi h
   exact pt_retP (es := [(4, .v (.int .i64 0)), (5, .v (.int .i64 0))]) (posts := [.box 103 [fb v1.2.2.b, .hid (mapT Tryd.prog 105 3 v1.2.2.last), .fl (.own 3) 1 (map (int .i64) v1.2.2.back), .v (.int .i64 v1.2.2.from_)]]) hio rfl rfl (.tmp _ _ (.tmp _ _ .nil)) rfl rfl hargs0 rfl
  ·have h := cond_f hb4 h
   refine ht_skip ?_
   refine pt_then (ht_seq ?_)
   refine ht_joinS h (fun ((s109,s110,s111,s112,s113,s114) : (List Int) × (List ((List Int) × Int)) × (List Int) × Int × Int × Int) => [(0,.box 103 [fb s109,.hid (mapT Tryd.prog 105 3 s110),.fl (.own 3) 1 (map (int .i64) s111),vi s112]),(0,.v (List.getD args0 0 undef)),(4,vi s113),(5,vi s114)]) ?_ ?_
   ·rintro ⟨s109, s110, s111, s112, s113, s114⟩ h
    refine pt_then ?_
    refine zgg hn [_,_,_,_,(63,vi s113),(64,vi s114),(4,vi s113),(5,vi s114)] [0,1,2,3] [0,1,6,7] [zq [2] 4 63,zq [3] 5 64,⟨[4],[2],[6],[(.slot 4)]⟩,⟨[5],[3],[7],[(.slot 5)]⟩] [(_,_),(_,_),(_,_),(_,_)] rfl ⟨z1 rfl,z1 rfl,zp rfl (LOp.drop [_] (op_assign _ _ _ _ rfl rfl)),zp rfl (LOp.drop [_] (op_assign _ _ _ _ rfl rfl)),zz⟩ ?_
    refine ht_ret ?_
    refine pt_pick [2,3,0,1] (by kernel_rfl) (es' := [(_,_),(_,_),(_,_),(_,_)]) rfl ?_
    obtain rfl := zi h
    exact pt_retP (es := [(4, .v (.int .i64 s113)), (5, .v (.int .i64 s114))]) (posts := [.box 103 [fb s109, .hid (mapT Tryd.prog 105 3 s110), .fl (.own 3) 1 (map (int .i64) s111), .v (.int .i64 s112)]]) hio rfl rfl (.tmp _ _ (.tmp _ _ .nil)) rfl rfl hargs0 rfl
   ·intro u115 h hl116 hr117
    refine ht_seq ?_
    obtain ⟨v5, hv5, h⟩ := zn h
    obtain ⟨v6, hv6, h⟩ := zn h
    obtain ⟨v7, hv7, h⟩ := zn h
    refine ht_anyR (by kernel_rfl) hn (El := (_ :: _ :: _ :: _ :: _ :: _ :: _ :: (18,.same (.slot 0)) :: (19,.ptr 0 0) :: (20,.ptr 0 1) :: (21,.same (.cell 0 1)) :: (22,.v (.agg (map (int .u8) v1.1).toArray)) :: (23,vi v6) :: (24,vi v7) :: (8,vi v7) :: [])) (init := [0,1,2,3,4,5,6]) (fin := [0,1,2,3,4,14]) (sps := [zq [] 7 18,zq [7,0] 8 19,zq [8,0] 9 20,zq [9,0] 10 21,zq [5] 11 22,zq [10,0,11] 12 23,zq [12] 13 24,zq [13] 14 8]) (es' := [(_,_),(_,_),(_,_),(_,_),(_,_),(8,vi v7)]) (by kernel_rfl) rfl rfl ⟨zp rfl (op_move_name _ _ _ rfl),zp rfl (op_nilCheck_name _ _ _ 0 rfl rfl (by decide)),zp rfl (oF underlying103 rfl sz101),zp rfl (oL underlying101 rfl),zp rfl (op_loadA_arr _ _ _ _ underlying105 rfl (sz105.trans (congrArg some (ln_len hv5))) rfl rfl),zp rfl (op_lookup _ _ _ _ 0 1 _ _ mf101 rfl rfl (zl rfl) rfl rfl hv6),zp rfl (oB rfl (ibind (f := int .i64) (Option.some.inj hv7))),z2 rfl,zz⟩ ?_
    refine pt_then ?_
    refine ht_loopS h (fun ((s159,s160,s161,s162,s163,s164,s165) : (List Int) × (List ((List Int) × Int)) × (List Int) × Int × Int × Int × Int) => [(0,.box 103 [fb s159,.hid (mapT Tryd.prog 105 3 s160),.fl (.own 3) 1 (map (int .i64) s161),vi s162]),(1,vi at_),(0,.v (List.getD args0 0 undef)),(4,vi s163),(5,vi s164),(8,vi s165)]) (fun ((s183,s184,s185,s186,s187,s188) : (List Int) × (List ((List Int) × Int)) × (List Int) × Int × Int × Int) => [(0,.box 103 [fb s183,.hid (mapT Tryd.prog 105 3 s184),.fl (.own 3) 1 (map (int .i64) s185),vi s186]),(0,.v (List.getD args0 0 undef)),(4,vi s187),(5,vi s188)]) ?_ ?_
    ·rintro ⟨s183, s184, s185, s186, s187, s188⟩ h
     exact hl116 _ (zi h).symm
    ·rintro u189 hl190 hr191 ⟨s159, s160, s161, s162, s163, s164, s165⟩ rr194 h ho192
     refine ht_seq ?_
     refine ht_seq ?_
     refine ht_joinS h (fun (s195 : Bool) => [(0,.box 103 [fb s159,.hid (mapT Tryd.prog 105 3 s160),.fl (.own 3) 1 (map (int .i64) s161),vi s162]),(1,vi at_),(0,.v (List.getD args0 0 undef)),(4,vi s163),(5,vi s164),(8,vi s165),(36,vb s195)]) ?_ ?_
     ·rintro s195 h
      refine pt_then ?_
      refine ht_cond _ rfl (fun hb199 => ?_) (fun hb199 => ?_)
      ·have h := cond_t hb199 h
       refine ht_skip ?_
       refine pt_then (ht_seq ?_)
       refine ht_block ?_
       refine ht_seq ?_
       refine ht_joinS h (fun ((s201,s202,s203,s204,s205,s206) : Int × Int × (List Int) × (List ((List Int) × Int)) × (List Int) × Int) => [(0,.box 103 [fb s203,.hid (mapT Tryd.prog 105 3 s204),.fl (.own 3) 1 (map (int .i64) s205),vi s206]),(1,vi at_),(0,.v (List.getD args0 0 undef)),(8,vi s165),(4,vi s201),(5,vi s202)]) ?_ ?_
       ·rintro ⟨s201, s202, s203, s204, s205, s206⟩ h
        refine pt_then ?_
        refine zgg hn [_,_,_,_,_,_,(61,vi s201),(62,vb (s201 == 258))] [0,1,2,3,4,5] [0,1,2,3,4,5,7] [zq [4] 6 61,zq [6] 7 62] [(_,_),(_,_),(_,_),(_,_),(_,_),(_,_),(_,_)] rfl ⟨z1 rfl,z4 rfl rfl,zz⟩ ?_
        refine ht_cond _ rfl (fun hb211 => ?_) (fun hb211 => ?_)
        ·have h := cond_t hb211 h
         refine ht_exit ?_
         refine pt_x_out (by decide) ?_
         refine pt_x_then ?_
         refine pt_x_then ?_
         refine pt_x_in ?_
         refine pt_pick [0,2,4,5] (by kernel_rfl) (es' := [(_,_),(_,_),(_,_),(_,_)]) rfl ?_
         exact hl190 _ (ho192 _ (zi h).symm).symm
        ·have h := cond_f hb211 h
         refine ht_skip ?_
         refine pt_inb ?_
         refine pt_then ?_
         obtain ⟨v28, hv28, h⟩ := zn h
         obtain ⟨v29, hv29, h⟩ := zn h
         obtain ⟨v30, hv30, h⟩ := zn h
         obtain ⟨v31, hv31, h⟩ := zn h
         refine ht_anyR (by kernel_rfl) hn (El := (_ :: _ :: _ :: _ :: _ :: _ :: _ :: (37,.same (.slot 0)) :: (38,.ptr 0 0) :: (39,.ptr 0 2) :: (40,.same (.cell 0 2)) :: (41,vi s165) :: (42,.same (.slot 0)) :: (43,.ptr 0 0) :: (44,.ptr 0 3) :: (45,vi s206) :: (46,vi v28) :: (47,.eref (.cell 0 2) (v29 * 1)) :: (48,vi v30) :: (49,vi v31) :: (8,vi v31) :: [])) (init := [0,1,2,3,4,5,6]) (fin := [0,1,2,4,5,20]) (sps := [zq [] 7 37,zq [7,0] 8 38,zq [8,0] 9 39,zq [9,0] 10 40,zq [3] 11 41,zq [] 12 42,zq [12,0] 13 43,zq [13,0] 14 44,zq [14,0] 15 45,zq [11,15] 16 46,zq [10,0,16] 17 47,zq [17,0] 18 48,zq [18] 19 49,⟨[19],[3],[20],[(.slot 8)]⟩]) (es' := [(_,_),(_,_),(_,_),(_,_),(_,_),(8,vi v31)]) (by kernel_rfl) rfl rfl ⟨zp rfl (op_move_name _ _ _ rfl),zp rfl (op_nilCheck_name _ _ _ 0 rfl rfl (by decide)),zp rfl (oF underlying103 rfl sz37),zp rfl (oL underlying37 rfl),z1 rfl,zp rfl (op_move_name _ _ _ rfl),zp rfl (op_nilCheck_name _ _ _ 0 rfl rfl (by decide)),zp rfl (oF underlying103 rfl sz3),zp rfl (oL underlying3 rfl),zp rfl (oB rfl (ibind (f := int .i64) (Option.some.inj hv28))),zp rfl (op_ix _ _ _ _ _ _ _ _ underlying37 sz3 (by decide) rfl rfl rfl (ix_ok hv29).1 (map_lt (ix_ok hv29).2) rfl),zp rfl (op_load_e _ _ _ _ _ _ underlying3 rfl rfl rfl (map_get hv30)),zp rfl (oB rfl (ibind (f := int .i64) (Option.some.inj hv31))),zp rfl (LOp.drop [_] (op_assign _ _ _ _ rfl rfl)),zz⟩ ?_
         exact pt_next _ (zi h).symm rfl
       ·intro u207 h hl208 hr209
        refine ht_seq ?_
        obtain ⟨v14, hv14, h⟩ := zn h
        refine zg hn [_,_,_,_,_,_,_,(50,.ptr 0 0),(51,vi s165),(52,vi at_),(53,vi v14.1),(0,.box 103 [fb v14.2.b,.hid (mapT Tryd.prog 105 3 v14.2.last),.fl (.own 3) 1 (map (int .i64) v14.2.back),vi v14.2.from_]),(9,vi v14.1)] [0,1,2,3,4,5,6] [11,1,2,3,4,5,12] [zq [0] 7 50,zq [5] 8 51,zq [1] 9 52,⟨[7,8,9],[0],[11,10],[(.slot 53),(.cell 0 0),(.cell 0 1),(.cell 0 2),(.cell 0 3)]⟩,zq [10] 12 9] [(_,_),(_,_),(_,_),(_,_),(_,_),(_,_),(_,_)] rfl ⟨z1 rfl,z1 rfl,z1 rfl,zp rfl (op_callPS _ _ _ _ 53 80 [.tmp 50] [.tmp 51, .tmp 52] _ _ _ rfl call80 rfl rfl rfl (ok_match_index_common (T_match_index.mk s159 s160 s161 s162) s165 at_ _ hv14) (zl rfl) rfl rfl rfl rfl rfl rfl rfl),z2 rfl,zz⟩ ?_
        refine pt_then ?_
        refine zgg hn [_,_,_,_,_,_,_,(54,vi v14.1),(55,vi s163),(56,vb (decide (s163 < v14.1)))] [0,1,2,3,4,5,6] [0,1,2,3,4,5,6,9] [zq [6] 7 54,zq [3] 8 55,zq [7,8] 9 56] [(_,_),(_,_),(_,_),(_,_),(_,_),(_,_),(_,_),(_,_)] rfl ⟨z1 rfl,z1 rfl,z4 rfl rfl,zz⟩ ?_
        refine ht_cond _ rfl (fun hb210 => ?_) (fun hb210 => ?_)
        ·have h := cond_t hb210 h
         obtain ⟨v16, hv16, h⟩ := zn h
         refine zg hn [_,_,_,_,_,_,_,_,(57,vi v14.1),(58,vi at_),(59,vi s165),(60,vi v16),(4,vi v14.1),(5,vi v16)] [0,1,2,3,4,5,6,7] [0,1,2,5,12,13] [zq [6] 8 57,zq [1] 9 58,zq [5] 10 59,zq [9,10] 11 60,⟨[8],[3],[12],[(.slot 4)]⟩,⟨[11],[4],[13],[(.slot 5)]⟩] [(_,_),(_,_),(_,_),(_,_),(_,_),(_,_)] rfl ⟨z1 rfl,z1 rfl,z1 rfl,zp rfl (oB rfl (ibind (f := int .i64) (Option.some.inj hv16))),zp rfl (LOp.drop [_] (op_assign _ _ _ _ rfl rfl)),zp rfl (LOp.drop [_] (op_assign _ _ _ _ rfl rfl)),zz⟩ ?_
         exact hl208 _ (zi h).symm
        ·have h := cond_f hb210 h
         refine ht_skip ?_
         refine pt_pick [0,1,2,5,3,4] (by kernel_rfl) (es' := [(_,_),(_,_),(_,_),(_,_),(_,_),(_,_)]) rfl ?_
         exact hl208 _ (zi h).symm
      ·have h := cond_f hb199 h
       refine ht_exit ?_
       refine pt_x_then ?_
       refine pt_x_then ?_
       refine pt_x_in ?_
       refine pt_pick [0,2,3,4] (by kernel_rfl) (es' := [(_,_),(_,_),(_,_),(_,_)]) rfl ?_
       exact hl190 _ (ho192 _ (zi h).symm).symm
     ·intro u196 h hl197 hr198
      refine cond_some h (fun hg5_6 h => ?_) (fun hg5_6 h => ?_)
      ·obtain ⟨v8, hv8, h⟩ := zn h
       refine zg hn (_::_::_::_::_::_::(25,vi s165)::(26,.ptr 0 0)::(27,.ptr 0 0)::(28,.ptr 0 3)::(29,vi s162)::(30,vb (decide (s162 ≤ s165)))::(31,vb true)::(32,vi at_)::(33,vi s165)::(34,vi v8)::(35,vb (decide (v8 ≤ 2048)))::(36,vb (decide (v8 ≤ 2048)))::[]) [0,1,2,3,4,5] [0,1,2,3,4,5,17] [zq [5] 6 25,zq [0] 7 26,zq [7,0] 8 27,zq [8,0] 9 28,zq [9,0] 10 29,zq [6,10] 11 30,zq [11] 12 31,zq [12,1] 13 32,zq [12,5] 14 33,zq [12,13,14] 15 34,zq [12,15] 16 35,zq [12,16] 17 36] [(_,_),(_,_),(_,_),(_,_),(_,_),(_,_),(_,_)] rfl ⟨z1 rfl,z1 rfl,zp rfl (op_nilCheck _ _ _ 0 0 rfl (by decide)),zp rfl (oF underlying103 rfl sz3),zp rfl (oL underlying3 rfl),z4 rfl rfl,z8 hg5_6 rfl,zr' rfl (oM rfl),zr' rfl (oM rfl),zr' rfl (oB rfl (ibind (f := int .i64) (Option.some.inj hv8))),zr' rfl (oB rfl rfl),z3 true rfl,zz⟩ ?_
       exact hl197 _ (zi h).symm
      ·refine zg hn (_::_::_::_::_::_::(25,vi s165)::(26,.ptr 0 0)::(27,.ptr 0 0)::(28,.ptr 0 3)::(29,vi s162)::(30,vb (decide (s162 ≤ s165)))::(31,vb false)::(32,.v undef)::(33,.v undef)::(34,.v undef)::(35,.v undef)::(36,vb false)::[]) [0,1,2,3,4,5] [0,1,2,3,4,5,17] [zq [5] 6 25,zq [0] 7 26,zq [7,0] 8 27,zq [8,0] 9 28,zq [9,0] 10 29,zq [6,10] 11 30,zq [11] 12 31,zq [12] 13 32,zq [12] 14 33,zq [12] 15 34,zq [12] 16 35,zq [12] 17 36] [(_,_),(_,_),(_,_),(_,_),(_,_),(_,_),(_,_)] rfl ⟨z1 rfl,z1 rfl,zp rfl (op_nilCheck _ _ _ 0 0 rfl (by decide)),zp rfl (oF underlying103 rfl sz3),zp rfl (oL underlying3 rfl),z4 rfl rfl,z8 hg5_6 rfl,zt rfl,zt rfl,zt rfl,zt rfl,z3 false rfl,zz⟩ ?_
       exact hl197 _ (zi h).symm
theorem ok_match_index_add (x : T_match_index) (at_ : Int) (r : T_match_index) (h : Sh.match_index_add x at_ = some r) : FnP Tryd.prog 58 [.box 103 [.fl .shr 1 (map (int .u8) x.b), .hid (mapT Tryd.prog 105 3 x.last), .fl (.own 3) 1 (map (int .i64) x.back), .v (.int .i64 x.from_)], .v (.int .i64 at_)] [.box 103 [.fl .shr 1 (map (int .u8) r.b), .hid (mapT Tryd.prog 105 3 r.last), .fl (.own 3) 1 (map (int .i64) r.back), .v (.int .i64 r.from_)]] (.tup []) := by
  unfold Sh.match_index_add at h
  refine fn_okP func58 rfl (zl rfl) rfl (zl rfl) fun args0 hargs0 g0 hn hio => ?_
  refine ht_seq ?_
  obtain ⟨v1, hv1, h⟩ := zn h
  obtain ⟨v2, hv2, h⟩ := zn h
  obtain ⟨v3, hv3, h⟩ := zn h
  refine zg hn [_,_,_,(7,.ptr 0 0),(8,vi at_),(9,.tup [.v (.agg (map (int .u8) v1.1).toArray),vb v1.2.1]),(0,.box 103 [fb v1.2.2.b,.hid (mapT Tryd.prog 105 3 v1.2.2.last),.fl (.own 3) 1 (map (int .i64) v1.2.2.back),vi v1.2.2.from_]),(6,.tup [.v (.agg (map (int .u8) v1.1).toArray),vb v1.2.1]),(10,.v (.agg (map (int .u8) v1.1).toArray)),(11,vb v1.2.1),(4,.arr 105 (map (int .u8) ((List.replicate 3 (0 : Int))))),(4,.arr 105 (map (int .u8) v1.1)),(5,vb v1.2.1)] [0,1,2] [6,1,2,11,12] [zq [0] 3 7,zq [1] 4 8,⟨[3,4],[0],[6,5],[(.slot 9),(.cell 0 0),(.cell 0 1),(.cell 0 2),(.cell 0 3)]⟩,⟨[],[5],[7],[(.slot 6)]⟩,zq [7] 8 10,zq [7] 9 11,zq [] 10 4,⟨[8],[10],[11],[]⟩,zq [9] 12 5] [(_,_),(_,_),(_,_),(_,_),(_,_)] rfl ⟨z1 rfl,z1 rfl,zp rfl (op_callPS _ _ _ _ 9 79 [.tmp 7] [.tmp 8] _ _ _ rfl call79 rfl rfl rfl (ok_match_index_startAt x at_ _ hv1) (zl rfl) rfl rfl rfl rfl rfl rfl rfl),zp rfl (op_move_take _ _ _ _ rfl),zp rfl (oE rfl),zp rfl (oE rfl),zp rfl (op_alloc_arr _ za105),zp rfl (op_storeA_arr _ _ _ _ (sz105.trans (congrArg some (ln_len hv3))) rfl rfl (ln_ones (fun _ => rfl) _) ((ln_len (f := int .u8) hv2).symm.trans (ln_len (f := int .u8) hv3))),z2 rfl,zz⟩ ?_
  refine pt_then (ht_seq ?_)
  refine zgg hn [_,_,_,_,_,(12,vb v1.2.1),(13,vb (!v1.2.1))] [0,1,2,3,4] [0,1,2,3,6] [zq [4] 5 12,zq [5] 6 13] [(_,_),(_,_),(_,_),(_,_),(_,_)] rfl ⟨z1 rfl,zp rfl (op_un _ _ _ _ rfl rfl),zz⟩ ?_
  refine ht_cond _ rfl (fun hb4 => ?_) (fun hb4 => ?_)
  ·have h := cond_t hb4 h
   refine ht_ret ?_
   refine pt_pick [0,2] (by kernel_rfl) (es' := [(_,_),(_,_)]) rfl ?_
   refine pt_r_then ?_
   obtain rfl := zi h
   exact pt_retP (es := []) (posts := [.box 103 [fb v1.2.2.b, .hid (mapT Tryd.prog 105 3 v1.2.2.last), .fl (.own 3) 1 (map (int .i64) v1.2.2.back), .v (.int .i64 v1.2.2.from_)]]) hio rfl rfl .nil rfl rfl hargs0 rfl
  ·have h := cond_f hb4 h
   refine ht_skip ?_
   refine pt_then (ht_seq ?_)
   obtain ⟨v5, hv5, h⟩ := zn h
   obtain ⟨v6, hv6, h⟩ := zn h
   obtain ⟨v7, hv7, h⟩ := zn h
   refine ht_anyR (by kernel_rfl) hn (El := (_ :: _ :: _ :: _ :: _ :: (14,.same (.slot 0)) :: (15,.same (.slot 0)) :: (16,.ptr 0 0) :: (17,.ptr 0 2) :: (18,.same (.cell 0 2)) :: (19,.same (.slot 0)) :: (20,.ptr 0 0) :: (21,.ptr 0 1) :: (22,.same (.cell 0 1)) :: (23,.v (.agg (map (int .u8) v1.1).toArray)) :: (24,vi v6) :: (25,.fl (.own 3) 1 (map (int .i64) [v6])) :: (26,.fl (.own 3) 1 (map (int .i64) v7)) :: (0,.box 103 [fb v1.2.2.b,.hid (mapT Tryd.prog 105 3 v1.2.2.last),.any,vi v1.2.2.from_]) :: (27,.ptr 0 0) :: (28,.ptr 0 2) :: (0,.box 103 [fb v1.2.2.b,.hid (mapT Tryd.prog 105 3 v1.2.2.last),.fl (.own 3) 1 (map (int .i64) v7),vi v1.2.2.from_]) :: [])) (init := [0,1,2,3,4]) (fin := [21,1,2,3]) (sps := (zq [] 5 14 :: zq [] 6 15 :: zq [6,0] 7 16 :: zq [7,0] 8 17 :: zq [8,0] 9 18 :: zq [] 10 19 :: zq [10,0] 11 20 :: zq [11,0] 12 21 :: zq [12,0] 13 22 :: zq [3] 14 23 :: zq [13,0,14] 15 24 :: zq [15] 16 25 :: ⟨[9,16],[0],[18,17],[(.slot 26)]⟩ :: zq [5,18] 19 27 :: zq [19,18] 20 28 :: ⟨[20],[9,17,18],[21],[.cell 0 2]⟩ :: [])) (es' := [(0,.box 103 [fb v1.2.2.b,.hid (mapT Tryd.prog 105 3 v1.2.2.last),.fl (.own 3) 1 (map (int .i64) v7),vi v1.2.2.from_]),(_,_),(_,_),(_,_)]) (by kernel_rfl) rfl rfl ⟨zp rfl (op_move_name _ _ _ rfl),zp rfl (op_move_name _ _ _ rfl),zp rfl (op_nilCheck_name _ _ _ 0 rfl rfl (by decide)),zp rfl (oF underlying103 rfl sz37),zp rfl (oL underlying37 rfl),zp rfl (op_move_name _ _ _ rfl),zp rfl (op_nilCheck_name _ _ _ 0 rfl rfl (by decide)),zp rfl (oF underlying103 rfl sz101),zp rfl (oL underlying101 rfl),zp rfl (op_loadA_arr _ _ _ _ underlying105 rfl (sz105.trans (congrArg some (ln_len hv5))) rfl rfl),zp rfl (op_lookup _ _ _ _ 0 1 _ _ mf101 rfl rfl (zl rfl) rfl rfl hv6),zp rfl (op_buildSlice _ _ 1 (.int .i64 0) (map (int .i64) [v6]) [(0,.int .i64 v6)] underlying37 sz3 zr3 (fun _ V w o a hv hes => by have e0 := rd_v hv hes (x := .tmp 24) rfl; simp only [List.map_toArray,List.map_cons,List.map_nil,e0]; try rfl) (litfill (by simp [Instr.fill,Value.cells]; rfl) (by simp [List.range,List.range.loop] <;> rfl)) (by simp [Value.oneCell']) rfl (by decide) (by decide) (by decide)),zp rfl (op_app_cell _ _ _ _ _ _ el37 rfl rfl (zl rfl) rfl (map_len _) (map_len _) hv7 ((List.map_append).symm.trans (congrArg (map _) (app_eq hv7))) (Nat.ne_of_beq_eq_false rfl) rfl rfl),zp rfl (op_nilCheck_name _ _ _ 0 rfl rfl (by decide)),zp rfl (oF underlying103 rfl sz37),zp rfl (LOp.drop [_] (op_store_take _ _ _ _ _ _ _ _ sz37 rfl rfl rfl (zl rfl) rfl rfl)),zz⟩ ?_
   refine pt_then ?_
   obtain ⟨v8, hv8, h⟩ := zn h
   obtain ⟨v9, hv9, h⟩ := zn h
   obtain ⟨v10, hv10, h⟩ := zn h
   refine ht_anyR (by kernel_rfl) hn (El := [_,_,_,_,(29,.same (.slot 0)),(30,.ptr 0 0),(31,.ptr 0 1),(32,.same (.cell 0 1)),(33,.v (.agg (map (int .u8) v1.1).toArray)),(34,vi at_),(35,vi v9),(0,.box 103 [fb v1.2.2.b,.hid (mapT Tryd.prog 105 3 v10),.fl (.own 3) 1 (map (int .i64) v7),vi v1.2.2.from_])]) (init := [0,1,2,3]) (fin := [11,2]) (sps := [zq [] 4 29,zq [4,0] 5 30,zq [5,0] 6 31,zq [6,0] 7 32,zq [3] 8 33,zq [1] 9 34,zq [9] 10 35,⟨[7,8,10],[0],[11],[]⟩]) (es' := [(0,.box 103 [fb v1.2.2.b,.hid (mapT Tryd.prog 105 3 v10),.fl (.own 3) 1 (map (int .i64) v7),vi v1.2.2.from_]),(_,_)]) (by kernel_rfl) rfl rfl ⟨zp rfl (op_move_name _ _ _ rfl),zp rfl (op_nilCheck_name _ _ _ 0 rfl rfl (by decide)),zp rfl (oF underlying103 rfl sz101),zp rfl (oL underlying101 rfl),zp rfl (op_loadA_arr _ _ _ _ underlying105 rfl (sz105.trans (congrArg some (ln_len hv8))) rfl rfl),z1 rfl,zp rfl (oB rfl (ibind (f := int .i64) (Option.some.inj hv9))),zp rfl (op_mapUpdate _ _ _ _ 0 1 _ _ mf101 rfl (zl rfl) rfl rfl rfl hv10 rfl),zz⟩ ?_
   obtain rfl := zi h
   exact pt_endP (es := []) (posts := [.box 103 [fb v1.2.2.b, .hid (mapT Tryd.prog 105 3 v10), .fl (.own 3) 1 (map (int .i64) v7), .v (.int .i64 v1.2.2.from_)]]) hio rfl rfl .nil rfl rfl hargs0 rfl
theorem ok_match_Tokens (b : (List Int)) (r : ((List T_Tok) × Int)) (h : Sh.match_Tokens b = some r) : FnOK Tryd.prog 34 [.fl .shr 1 (map (int .u8) b)] (.tup [.fl (.own 53) 3 (flatten (map T_Tok.enc r.1)), .v (.int .i64 r.2)]) := by
  unfold Sh.match_Tokens at h
  refine fn_ok func34 rfl (zl rfl) rfl rfl fun g0 hn hio => ?_
  refine zgg hn [_,(2,vz),(3,vi 0)] [0] [0] [zq [] 1 2,zq [] 2 3] [(_,_)] rfl ⟨z2 rfl,z2 rfl,zz⟩ ?_
  refine ht_seq ?_
  refine zgg hn [_,(10,fb b),(11,vi (b.length : Int)),(12,vb (decide (4096 < (b.length : Int))))] [0] [0,3] [zq [0] 1 10,zq [1] 2 11,zq [2] 3 12] [(_,_),(_,_)] rfl ⟨z1 rfl,zp rfl (op_len_fl _ _ _ underlying22 rfl (by decide) (map_len _)),z4 rfl rfl,zz⟩ ?_
  refine ht_cond _ rfl (fun hb1 => ?_) (fun hb1 => ?_)
  ·have h := cond_t hb1 h
   refine zgg hn [_,_,(2,vz),(3,vi 2)] [0,1] [2,3] [zq [] 2 2,zq [] 3 3] [(_,_),(_,_)] rfl ⟨z2 rfl,z2 rfl,zz⟩ ?_
   refine ht_ret ?_
   refine pt_sub (fs := [(2,.fl (.own 53) 3 (flatten (map T_Tok.enc []))),(3,vi 2)]) (.sub _ (sub_nil 53 3) rfl (.same _ .nil)) ?_
   refine pt_r_then ?_
   obtain rfl := zi h
   exact pt_ret hio rfl (.tmp _ _ (.tmp _ _ .nil)) rfl rfl
  ·have h := cond_f hb1 h
   refine ht_skip ?_
   refine pt_then ?_
   refine zgg hn [_,_,(4,vz)] [0,1] [0,2] [zq [] 2 4] [(_,_),(_,_)] rfl ⟨z2 rfl,zz⟩ ?_
   refine ht_seq ?_
   obtain ⟨v2, hv2, h⟩ := zn h
   refine zg hn [_,_,(13,fb b),(14,.obox (Option.isSome v2) 103 [fb (((Option.getD v2 (default : T_match_index))).b),.hid (mapT Tryd.prog 105 3 (((Option.getD v2 (default : T_match_index))).last)),.fl (.own 3) 1 (map (int .i64) (((Option.getD v2 (default : T_match_index))).back)),vi (((Option.getD v2 (default : T_match_index))).from_)]),(5,.obox (Option.isSome v2) 103 [fb (((Option.getD v2 (default : T_match_index))).b),.hid (mapT Tryd.prog 105 3 (((Option.getD v2 (default : T_match_index))).last)),.fl (.own 3) 1 (map (int .i64) (((Option.getD v2 (default : T_match_index))).back)),vi (((Option.getD v2 (default : T_match_index))).from_)])] [0,1] [0,1,4] [zq [0] 2 13,zq [2] 3 14,⟨[],[3],[4],[(.slot 5)]⟩] [(_,_),(_,_),(_,_)] rfl ⟨z1 rfl,zp rfl (op_callS _ _ 56 _ _ rfl call56 rfl rfl (ok_match_newIndex_sh b 0 _ hv2) rfl),zp rfl (op_assign_take _ _ _ _ rfl),zz⟩ ?_
   refine pt_ob (d := default) (f := fun (v3 : T_match_index) => [fb v3.b, .hid (mapT Tryd.prog 105 3 v3.last), .fl (.own 3) 1 (map (int .i64) v3.back), .v (.int .i64 v3.from_)]) 2 4 5 103 h (es1 := fun v3 => [(0, fb b), (4, vz), (5, .box 103 [fb v3.b, .hid (mapT Tryd.prog 105 3 v3.last), .fl (.own 3) 1 (map (int .i64) v3.back), .v (.int .i64 v3.from_)])]) (es0 := [(0, fb b), (4, vz), (5, .v (.pointer none))]) rfl (fun _ => rfl) (by kernel_rfl) (fun _ => rfl) (fun _ => rfl) rfl (fun v3 hv4 h => ?_) (fun hv4 h => ?_)
   ·refine pt_then (ht_seq ?_)
    refine zgg hn [_,_,_,(6,vi 0)] [0,1,2] [0,1,2,3] [zq [] 3 6] [(_,_),(_,_),(_,_),(_,_)] rfl ⟨z2 rfl,zz⟩ ?_
    refine ht_sub (fs := [(0,fb b),(4,.fl (.own 53) 3 (flatten (map T_Tok.enc []))),(5,.box 103 [fb v3.b,.hid (mapT Tryd.prog 105 3 v3.last),.fl (.own 3) 1 (map (int .i64) v3.back),vi v3.from_]),(6,vi 0)]) (.same _ (.sub _ (sub_nil 53 3) rfl (.same _ (.same _ .nil)))) ?_
    refine ht_loopS h (fun ((s88,s89,s90,s91,s92,s93) : (List T_Tok) × (List Int) × (List ((List Int) × Int)) × (List Int) × Int × Int) => [(0,fb b),(4,.fl (.own 53) 3 (flatten (map T_Tok.enc s88))),(5,.box 103 [fb s89,.hid (mapT Tryd.prog 105 3 s90),.fl (.own 3) 1 (map (int .i64) s91),vi s92]),(6,vi s93)]) (fun (s129 : (List T_Tok)) => [(4,.fl (.own 53) 3 (flatten (map T_Tok.enc s129)))]) ?_ ?_
    ·rintro s129 h
     refine pt_then ?_
     refine zgg hn [_,(48,.fl (.own 53) 3 (flatten (map T_Tok.enc s129))),(2,.fl (.own 53) 3 (flatten (map T_Tok.enc s129))),(3,vi 0)] [0] [2,3] [⟨[],[0],[1],[(.slot 48)]⟩,⟨[],[1],[2],[(.slot 2)]⟩,zq [] 3 3] [(_,_),(_,_)] rfl ⟨zp rfl (op_move_take _ _ _ _ rfl),zp rfl (op_assign_take _ _ _ _ rfl),z2 rfl,zz⟩ ?_
     refine ht_ret ?_
     obtain rfl := zi h
     exact pt_ret hio rfl (.tmp _ _ (.tmp _ _ .nil)) rfl rfl
    ·rintro u130 hl131 hr132 ⟨s88, s89, s90, s91, s92, s93⟩ rr135 h ho133
     refine ht_seq ?_
     refine zgg hn [_,_,_,_,(15,vi s93),(16,fb b),(17,vi (b.length : Int)),(18,vb (decide (s93 < (b.length : Int))))] [0,1,2,3] [0,1,2,3,7] [zq [3] 4 15,zq [0] 5 16,zq [5] 6 17,zq [4,6] 7 18] [(_,_),(_,_),(_,_),(_,_),(_,_)] rfl ⟨z1 rfl,z1 rfl,zp rfl (op_len_fl _ _ _ underlying22 rfl (by decide) (map_len _)),z4 rfl rfl,zz⟩ ?_
     refine ht_cond _ rfl (fun hb136 => ?_) (fun hb136 => ?_)
     ·have h := cond_t hb136 h
      refine ht_skip ?_
      refine pt_then ?_
      refine ht_block ?_
      refine ht_seq ?_
      obtain ⟨v6, hv6, h⟩ := zn h
      refine zg hn [_,_,_,_,_,(20,.ptr 5 0),(21,vi s93),(22,.tup [vi v6.1,vi v6.2.1]),(5,.box 103 [fb v6.2.2.b,.hid (mapT Tryd.prog 105 3 v6.2.2.last),.fl (.own 3) 1 (map (int .i64) v6.2.2.back),vi v6.2.2.from_]),(19,.tup [vi v6.1,vi v6.2.1]),(23,vi v6.1),(24,vi v6.2.1),(7,vi v6.1),(8,vi v6.2.1)] [0,1,2,3,4] [0,1,8,3,12,13] [zq [2] 5 20,zq [3] 6 21,⟨[5,6],[2],[8,7],[(.slot 22),(.cell 5 0),(.cell 5 1),(.cell 5 2),(.cell 5 3)]⟩,⟨[],[7],[9],[(.slot 19)]⟩,zq [9] 10 23,zq [9] 11 24,zq [10] 12 7,zq [11] 13 8] [(_,_),(_,_),(_,_),(_,_),(_,_),(_,_)] rfl ⟨z1 rfl,z1 rfl,zp rfl (op_callPS _ _ _ _ 22 57 [.tmp 20] [.tmp 21] _ _ _ rfl call57 rfl rfl rfl (ok_match_index_best (T_match_index.mk s89 s90 s91 s92) s93 _ hv6) (zl rfl) rfl rfl rfl rfl rfl rfl rfl),zp rfl (op_move_take _ _ _ _ rfl),zp rfl (oE rfl),zp rfl (oE rfl),z2 rfl,z2 rfl,zz⟩ ?_
      refine pt_then ?_
      refine zgg hn [_,_,_,_,_,_,(25,vi v6.1),(26,vi v6.2.1),(27,.agg [.v (.int .u8 0),vi v6.1,vi v6.2.1]),(9,.box 53 [.v (.int .u8 0),vi 0,vi 0]),(9,.box 53 [.v (.int .u8 0),vi v6.1,vi v6.2.1])] [0,1,2,3,4,5] [0,1,2,3,4,10] [zq [4] 6 25,zq [5] 7 26,zq [6,7] 8 27,zq [] 9 9,⟨[8],[9],[10],[.cell 9 0,.cell 9 1,.cell 9 2]⟩] [(_,_),(_,_),(_,_),(_,_),(_,_),(_,_)] rfl ⟨z1 rfl,z1 rfl,zp rfl (op_build _ _ _ _ [1, 1, 1] _ _ underlying53 zr53 (fs53 _ underlying53) (.copy _ (.copy _ Src.nil)) rfl rfl rfl),zp rfl (op_alloc _ _ zr53),zp rfl (oS sz53 rfl),zz⟩ ?_
      refine ht_seq ?_
      refine ht_joinS h (fun ((s138,s139) : Int × Int) => [(0,fb b),(4,.fl (.own 53) 3 (flatten (map T_Tok.enc s88))),(5,.box 103 [fb v6.2.2.b,.hid (mapT Tryd.prog 105 3 v6.2.2.last),.fl (.own 3) 1 (map (int .i64) v6.2.2.back),vi v6.2.2.from_]),(6,vi s93),(9,.box 53 [.v (.int .u8 s138),vi v6.1,vi v6.2.1]),(7,vi s139)]) ?_ ?_
      ·rintro ⟨s138, s139⟩ h
       refine pt_then (ht_seq ?_)
       obtain ⟨v16, hv16, h⟩ := zn h
       refine zg hn [_,_,_,_,_,_,(35,.fl (.own 53) 3 (flatten (map T_Tok.enc s88))),(36,.agg [.v (.int .u8 s138),vi v6.1,vi v6.2.1]),(37,.fl (.own 53) 3 (flatten (map T_Tok.enc [(T_Tok.mk s138 v6.1 v6.2.1)]))),(38,.fl (.own 53) 3 (flatten (map T_Tok.enc v16))),(35,.any),(4,.fl (.own 53) 3 (flatten (map T_Tok.enc v16)))] [0,1,2,3,4,5] [0,2,3,5,11] [⟨[],[1],[6],[(.slot 35)]⟩,zq [4] 7 36,zq [7] 8 37,⟨[8],[6],[10,9],[(.slot 38)]⟩,⟨[],[9],[11],[(.slot 4)]⟩] [(_,_),(_,_),(_,_),(_,_),(_,_)] rfl ⟨zp rfl (op_move_take _ _ _ _ rfl),zp rfl (op_loadA _ _ _ _ _ _ _ underlying53 rfl sz53 rfl rfl (zl rfl) rfl rfl),zp rfl (op_buildSlice _ _ 3 (.agg #[.int .u8 0, .int .i64 0, .int .i64 0]) (flatten (map T_Tok.enc [(T_Tok.mk s138 v6.1 v6.2.1)])) [(0, .agg #[.int .u8 s138, .int .i64 v6.1, .int .i64 v6.2.1])] underlying45 sz53 zr53 (fun _ V w o a hv hes => by have e0 := agg_v (ys := [.int .u8 s138, .int .i64 v6.1, .int .i64 v6.2.1]) hv hes (x := .tmp 36) rfl; simp only [List.map_toArray, List.map_cons, List.map_nil, e0]; try rfl) (litfill (by simp [Instr.fill, Value.cells]; rfl) (by simp [List.range, List.range.loop, T_Tok.enc] <;> rfl)) (by simp [Value.oneCell', T_Tok.enc]) rfl (by decide) (by decide) (by decide)),zp rfl (op_app _ _ _ _ _ el45 rfl rfl (flat_len T_Tok.len _) (flat_len T_Tok.len _) hv16 (flat_app (app_eq hv16))),zp rfl (op_assign_take _ _ _ _ rfl),zz⟩ ?_
       refine pt_then ?_
       refine ht_loopS h (fun ((s152,s153,s154,s155,s156,s157) : (List Int) × (List ((List Int) × Int)) × (List Int) × Int × Int × Int) => [(0,fb b),(5,.box 103 [fb s152,.hid (mapT Tryd.prog 105 3 s153),.fl (.own 3) 1 (map (int .i64) s154),vi s155]),(6,vi s156),(7,vi s157),(4,.fl (.own 53) 3 (flatten (map T_Tok.enc v16)))]) (fun ((s159,s160,s161,s162,s163) : (List Int) × (List ((List Int) × Int)) × (List Int) × Int × Int) => [(0,fb b),(5,.box 103 [fb s159,.hid (mapT Tryd.prog 105 3 s160),.fl (.own 3) 1 (map (int .i64) s161),vi s162]),(6,vi s163),(4,.fl (.own 53) 3 (flatten (map T_Tok.enc v16)))]) ?_ ?_
       ·rintro ⟨s159, s160, s161, s162, s163⟩ h
        refine pt_inb ?_
        refine pt_pick [0,3,1,2] (by kernel_rfl) (es' := [(_,_),(_,_),(_,_),(_,_)]) rfl ?_
        exact pt_next _ (zi h).symm rfl
       ·rintro u164 hl165 hr166 ⟨s152, s153, s154, s155, s156, s157⟩ rr169 h ho167
        refine ht_seq ?_
        refine zgg hn [_,_,_,_,_,(39,vi s157),(40,vb (decide (0 < s157)))] [0,1,2,3,4] [0,1,2,3,4,6] [zq [3] 5 39,zq [5] 6 40] [(_,_),(_,_),(_,_),(_,_),(_,_),(_,_)] rfl ⟨z1 rfl,z4 rfl rfl,zz⟩ ?_
        refine ht_cond _ rfl (fun hb170 => ?_) (fun hb170 => ?_)
        ·have h := cond_t hb170 h
         refine ht_skip ?_
         refine pt_then (ht_seq ?_)
         refine ht_block ?_
         refine ht_seq ?_
         obtain ⟨v18, hv18, h⟩ := zn h
         refine zg hn [_,_,_,_,_,_,(43,.ptr 5 0),(44,vi s156),(45,.tup []),(5,.box 103 [fb v18.b,.hid (mapT Tryd.prog 105 3 v18.last),.fl (.own 3) 1 (map (int .i64) v18.back),vi v18.from_])] [0,1,2,3,4,5] [0,9,2,3,4] [zq [1] 6 43,zq [2] 7 44,⟨[6,7],[1],[9,8],[(.slot 45),(.cell 5 0),(.cell 5 1),(.cell 5 2),(.cell 5 3)]⟩] [(_,_),(_,_),(_,_),(_,_),(_,_)] rfl ⟨z1 rfl,z1 rfl,zp rfl (op_callPS _ _ _ _ 45 58 [.tmp 43] [.tmp 44] _ _ _ rfl call58 rfl rfl rfl (ok_match_index_add (T_match_index.mk s152 s153 s154 s155) s156 _ hv18) (zl rfl) rfl rfl rfl rfl rfl rfl rfl),zz⟩ ?_
         refine pt_then ?_
         obtain ⟨v19, hv19, h⟩ := zn h
         refine zg hn [_,_,_,_,_,(46,vi s156),(47,vi v19),(6,vi v19)] [0,1,2,3,4] [0,1,3,4,7] [zq [2] 5 46,zq [5] 6 47,⟨[6],[2],[7],[(.slot 6)]⟩] [(_,_),(_,_),(_,_),(_,_),(_,_)] rfl ⟨z1 rfl,zp rfl (oB rfl (ibind (f := int .i64) (Option.some.inj hv19))),zp rfl (LOp.drop [_] (op_assign _ _ _ _ rfl rfl)),zz⟩ ?_
         refine pt_inb ?_
         refine pt_then ?_
         obtain ⟨v20, hv20, h⟩ := zn h
         refine zg hn [_,_,_,_,_,(41,vi s157),(42,vi v20),(7,vi v20)] [0,1,2,3,4] [0,1,3,4,7] [zq [2] 5 41,zq [5] 6 42,⟨[6],[2],[7],[(.slot 7)]⟩] [(_,_),(_,_),(_,_),(_,_),(_,_)] rfl ⟨z1 rfl,zp rfl (oB rfl (ibind (f := int .i64) (Option.some.inj hv20))),zp rfl (LOp.drop [_] (op_assign _ _ _ _ rfl rfl)),zz⟩ ?_
         refine pt_pick [0,1,3,4,2] (by kernel_rfl) (es' := [(_,_),(_,_),(_,_),(_,_),(_,_)]) rfl ?_
         exact pt_next _ (zi h).symm rfl
        ·have h := cond_f hb170 h
         refine ht_exit ?_
         refine pt_x_then ?_
         refine pt_x_then ?_
         refine pt_x_in ?_
         refine pt_pick [0,1,2,4] (by kernel_rfl) (es' := [(_,_),(_,_),(_,_),(_,_)]) rfl ?_
         exact hl165 _ (ho167 _ (zi h).symm).symm
      ·intro u140 h hl141 hr142
       refine zgg hn [_,_,_,_,_,_,(28,vi v6.1),(29,vb (v6.1 == 0))] [0,1,2,3,4,5] [0,1,2,3,4,5,7] [zq [4] 6 28,zq [6] 7 29] [(_,_),(_,_),(_,_),(_,_),(_,_),(_,_),(_,_)] rfl ⟨z1 rfl,z4 rfl rfl,zz⟩ ?_
       refine ht_cond _ rfl (fun hb143 => ?_) (fun hb143 => ?_)
       ·have h := cond_t hb143 h
        refine ht_seq ?_
        obtain ⟨v8, hv8, h⟩ := zn h
        obtain ⟨v9, hv9, h⟩ := zn h
        refine zg hn [_,_,_,_,_,_,_,(30,fb b),(31,vi s93),(32,.eref (.slot 30) (v8 * 1)),(33,.v (.int .u8 v9)),(34,.ptr 9 0),(9,.box 53 [.v (.int .u8 v9),vi v6.1,vi v6.2.1])] [0,1,2,3,4,5,6] [0,1,2,3,12] [zq [0] 7 30,zq [3] 8 31,zq [7,8] 9 32,zq [9,7] 10 33,zq [5] 11 34,⟨[11,10],[5],[12],[.cell 9 0]⟩] [(_,_),(_,_),(_,_),(_,_),(_,_)] rfl ⟨z1 rfl,z1 rfl,zp rfl (op_ix _ _ _ _ _ _ _ _ underlying22 sz5 (by decide) rfl rfl rfl (ix_ok hv8).1 (map_lt (ix_ok hv8).2) rfl),zp rfl (op_load_e _ _ _ _ _ _ underlying5 rfl rfl rfl (map_get hv9)),zp rfl (oF underlying53 rfl sz5),zp rfl (oS sz5 rfl),zz⟩ ?_
        refine pt_then ?_
        refine zg hn [_,_,_,_,_,(7,vi 1)] [0,1,2,3,4] [0,1,2,3,4,5] [zq [] 5 7] [(_,_),(_,_),(_,_),(_,_),(_,_),(_,_)] rfl ⟨z2 rfl,zz⟩ ?_
        exact hl141 _ (zi h).symm
       ·have h := cond_f hb143 h
        refine ht_skip ?_
        refine pt_pick [0,1,2,3,5,4] (by kernel_rfl) (es' := [(_,_),(_,_),(_,_),(_,_),(_,_),(_,_)]) rfl ?_
        exact hl141 _ (zi h).symm
     ·have h := cond_f hb136 h
      refine ht_exit ?_
      refine pt_x_then ?_
      refine pt_x_then ?_
      refine pt_x_in ?_
      refine pt_pick [1] (by kernel_rfl) (es' := [(_,_)]) rfl ?_
      exact hl131 _ (ho133 _ (zi h).symm).symm
   ·refine pt_then (ht_seq ?_)
    refine zgg hn [_,_,_,(6,vi 0)] [0,1,2] [0,1,2,3] [zq [] 3 6] [(_,_),(_,_),(_,_),(_,_)] rfl ⟨z2 rfl,zz⟩ ?_
    refine ht_loopS h (fun (() : Unit) => [(0,fb b),(4,vz),(5,.v (.pointer none)),(6,vi 0)]) (fun (() : Unit) => [(4,vz)]) ?_ ?_
    ·rintro ⟨⟩ h
     refine pt_then ?_
     refine zgg hn [_,(48,vz),(2,vz),(3,vi 0)] [0] [2,3] [zq [0] 1 48,zq [1] 2 2,zq [] 3 3] [(_,_),(_,_)] rfl ⟨z1 rfl,z2 rfl,z2 rfl,zz⟩ ?_
     refine ht_ret ?_
     refine pt_sub (fs := [(2,.fl (.own 53) 3 (flatten (map T_Tok.enc []))),(3,vi 0)]) (.sub _ (sub_nil 53 3) rfl (.same _ .nil)) ?_
     obtain rfl := zi h
     exact pt_ret hio rfl (.tmp _ _ (.tmp _ _ .nil)) rfl rfl
    ·rintro u173 hl174 hr175 ⟨⟩ rr178 h ho176
     refine ht_seq ?_
     refine zgg hn [_,_,_,_,(15,vi 0),(16,fb b),(17,vi (b.length : Int)),(18,vb (decide (0 < (b.length : Int))))] [0,1,2,3] [0,1,2,3,7] [zq [3] 4 15,zq [0] 5 16,zq [5] 6 17,zq [4,6] 7 18] [(_,_),(_,_),(_,_),(_,_),(_,_)] rfl ⟨z1 rfl,z1 rfl,zp rfl (op_len_fl _ _ _ underlying22 rfl (by decide) (map_len _)),z4 rfl rfl,zz⟩ ?_
     refine ht_cond _ rfl (fun hb179 => ?_) (fun hb179 => ?_)
     ·have h := cond_t hb179 h
      cases h
     ·have h := cond_f hb179 h
      refine ht_exit ?_
      refine pt_x_then ?_
      refine pt_x_then ?_
      refine pt_x_in ?_
      refine pt_pick [1] (by kernel_rfl) (es' := [(_,_)]) rfl ?_
      exact hl174 _ (ho176 _ (zi h).symm).symm
theorem ok_sym_fixedLen (s : Int) (r : Int) (h : Sh.sym_fixedLen s = some r) : FnOK Tryd.prog 81 [.v (.int .i64 s)] (.v (.int .i64 r)) := by
  unfold Sh.sym_fixedLen at h
  refine fn_ok func81 rfl (zl rfl) rfl rfl fun g0 hn hio => ?_
  refine zgg hn [_,(2,vi 0)] [0] [0] [zq [] 1 2] [(_,_)] rfl ⟨z2 rfl,zz⟩ ?_
  refine ht_seq ?_
  refine ht_block ?_
  refine zgg hn [_,(4,vi s),(5,vb (decide (s < 144))),(3,vb (decide (s < 144)))] [0] [0,3] [zq [0] 1 4,zq [1] 2 5,zq [2] 3 3] [(_,_),(_,_)] rfl ⟨z1 rfl,z4 rfl rfl,z2 rfl,zz⟩ ?_
  refine ht_cond _ rfl (fun hb1 => ?_) (fun hb1 => ?_)
  ·have h := cond_t hb1 h
   refine zgg hn [_,_,(2,vi 8)] [0,1] [2] [zq [] 2 2] [(_,_)] rfl ⟨z2 rfl,zz⟩ ?_
   refine ht_ret ?_
   refine pt_r_in ?_
   refine pt_r_then ?_
   obtain rfl := zi h
   exact pt_ret hio rfl (.tmp _ _ .nil) rfl rfl
  ·have h := cond_f hb1 h
   refine zgg hn [_,_,(7,vi s),(8,vb (decide (s < 256))),(6,vb (decide (s < 256)))] [0,1] [0,4] [zq [0] 2 7,zq [2] 3 8,zq [3] 4 6] [(_,_),(_,_)] rfl ⟨z1 rfl,z4 rfl rfl,z2 rfl,zz⟩ ?_
   refine ht_cond _ rfl (fun hb2 => ?_) (fun hb2 => ?_)
   ·have h := cond_t hb2 h
    refine zgg hn [_,_,(2,vi 9)] [0,1] [2] [zq [] 2 2] [(_,_)] rfl ⟨z2 rfl,zz⟩ ?_
    refine ht_ret ?_
    refine pt_r_in ?_
    refine pt_r_then ?_
    obtain rfl := zi h
    exact pt_ret hio rfl (.tmp _ _ .nil) rfl rfl
   ·have h := cond_f hb2 h
    refine zgg hn [_,_,(10,vi s),(11,vb (decide (s < 280))),(9,vb (decide (s < 280)))] [0,1] [4] [zq [0] 2 10,zq [2] 3 11,zq [3] 4 9] [(_,_)] rfl ⟨z1 rfl,z4 rfl rfl,z2 rfl,zz⟩ ?_
    refine ht_cond _ rfl (fun hb3 => ?_) (fun hb3 => ?_)
    ·have h := cond_t hb3 h
     refine zgg hn [_,(2,vi 7)] [0] [1] [zq [] 1 2] [(_,_)] rfl ⟨z2 rfl,zz⟩ ?_
     refine ht_ret ?_
     refine pt_r_in ?_
     refine pt_r_then ?_
     obtain rfl := zi h
     exact pt_ret hio rfl (.tmp _ _ .nil) rfl rfl
    ·have h := cond_f hb3 h
     refine ht_skip ?_
     refine pt_inb ?_
     refine pt_then ?_
     refine zgg hn [_,(2,vi 8)] [0] [1] [zq [] 1 2] [(_,_)] rfl ⟨z2 rfl,zz⟩ ?_
     refine ht_ret ?_
     obtain rfl := zi h
     exact pt_ret hio rfl (.tmp _ _ .nil) rfl rfl
theorem ok_sym_Fixed (r : ((List Int) × (List Int))) (h : Sh.sym_Fixed  = some r) : FnOK Tryd.prog 59 [] (.tup [.fl (.own 3) 1 (map (int .i64) r.1), .fl (.own 3) 1 (map (int .i64) r.2)]) := by
  unfold Sh.sym_Fixed at h
  refine fn_ok func59 rfl (zl rfl) rfl rfl fun g0 hn hio => ?_
  refine zgg hn [(0,vz),(1,vz)] [] [0,1] [zq [] 0 0,zq [] 1 1] [(_,_),(_,_)] rfl ⟨z2 rfl,z2 rfl,zz⟩ ?_
  refine ht_seq ?_
  refine zgg hn [_,_,(3,vi 0)] [0,1] [0,1,2] [zq [] 2 3] [(_,_),(_,_),(_,_)] rfl ⟨z1 rfl,zz⟩ ?_
  refine ht_sub (fs := [(0,.fl (.own 3) 1 (map (int .i64) [])),(1,vz),(3,vi 0)]) (.sub _ (sub_nil 3 1) rfl (.same _ (.same _ .nil))) ?_
  refine ht_loopS h (fun ((s8,s9) : (List Int) × Int) => [(0,.fl (.own 3) 1 (map (int .i64) s8)),(1,vz),(3,vi s9)]) (fun (s11 : (List Int)) => [(0,.fl (.own 3) 1 (map (int .i64) s11)),(1,vz)]) ?_ ?_
  ·rintro s11 h
   refine pt_then (ht_seq ?_)
   refine zgg hn [_,_,(12,vi 0)] [0,1] [0,1,2] [zq [] 2 12] [(_,_),(_,_),(_,_)] rfl ⟨z1 rfl,zz⟩ ?_
   refine ht_sub (fs := [(0,.fl (.own 3) 1 (map (int .i64) s11)),(1,.fl (.own 3) 1 (map (int .i64) [])),(12,vi 0)]) (.same _ (.sub _ (sub_nil 3 1) rfl (.same _ .nil))) ?_
   refine ht_loopS h (fun ((s25,s26) : (List Int) × Int) => [(0,.fl (.own 3) 1 (map (int .i64) s11)),(1,.fl (.own 3) 1 (map (int .i64) s25)),(12,vi s26)]) (fun (s28 : (List Int)) => [(0,.fl (.own 3) 1 (map (int .i64) s11)),(1,.fl (.own 3) 1 (map (int .i64) s28))]) ?_ ?_
   ·rintro s28 h
    refine pt_then ?_
    refine zgg hn [_,_,(18,.fl (.own 3) 1 (map (int .i64) s11)),(19,.fl (.own 3) 1 (map (int .i64) s28)),(0,.fl (.own 3) 1 (map (int .i64) s11)),(1,.fl (.own 3) 1 (map (int .i64) s28))] [0,1] [4,5] [⟨[],[0],[2],[(.slot 18)]⟩,⟨[],[1],[3],[(.slot 19)]⟩,⟨[],[2],[4],[(.slot 0)]⟩,⟨[],[3],[5],[(.slot 1)]⟩] [(_,_),(_,_)] rfl ⟨zp rfl (op_move_take _ _ _ _ rfl),zp rfl (op_move_take _ _ _ _ rfl),zp rfl (op_assign_take _ _ _ _ rfl),zp rfl (op_assign_take _ _ _ _ rfl),zz⟩ ?_
    refine ht_ret ?_
    obtain rfl := zi h
    exact pt_ret hio rfl (.tmp _ _ (.tmp _ _ .nil)) rfl rfl
   ·rintro u29 hl30 hr31 ⟨s25, s26⟩ rr34 h ho32
    refine zgg hn [_,_,_,(13,vb (decide (s26 < 32)))] [0,1,2] [0,1,2,3] [zq [2] 3 13] [(_,_),(_,_),(_,_),(_,_)] rfl ⟨z4 rfl rfl,zz⟩ ?_
    refine ht_seq ?_
    refine ht_cond _ rfl (fun hb35 => ?_) (fun hb35 => ?_)
    ·have h := cond_t hb35 h
     refine ht_skip ?_
     refine pt_then (ht_seq ?_)
     refine ht_block ?_
     obtain ⟨v20, hv20, h⟩ := zn h
     refine zg hn [_,_,_,_,(14,.fl (.own 3) 1 (map (int .i64) s25)),(15,.fl (.own 3) 1 (map (int .i64) [5])),(16,.fl (.own 3) 1 (map (int .i64) v20)),(14,.any),(1,.fl (.own 3) 1 (map (int .i64) v20))] [0,1,2,3] [0,2,8] [⟨[],[1],[4],[(.slot 14)]⟩,zq [] 5 15,⟨[5],[4],[7,6],[(.slot 16)]⟩,⟨[],[6],[8],[(.slot 1)]⟩] [(_,_),(_,_),(_,_)] rfl ⟨zp rfl (op_move_take _ _ _ _ rfl),zp rfl (op_buildSlice _ _ 1 (.int .i64 0) (map (int .i64) [5]) [(0, .int .i64 5)] underlying37 sz3 zr3 (fun _ V w o a hv hes => by simp only [List.map_toArray, List.map_cons, List.map_nil]; try rfl) (litfill (by simp [Instr.fill, Value.cells]; rfl) (by simp [List.range, List.range.loop] <;> rfl)) (by simp [Value.oneCell']) rfl (by decide) (by decide) (by decide)),zp rfl (op_app _ _ _ _ _ el37 rfl rfl (map_len _) (map_len _) hv20 ((List.map_append).symm.trans (congrArg (map _) (app_eq hv20)))),zp rfl (op_assign_take _ _ _ _ rfl),zz⟩ ?_
     refine pt_inb ?_
     refine pt_then ?_
     obtain ⟨v21, hv21, h⟩ := zn h
     refine zg hn [_,_,_,(17,vi v21),(12,vi v21)] [0,1,2] [0,2,4] [zq [1] 3 17,⟨[3],[1],[4],[(.slot 12)]⟩] [(_,_),(_,_),(_,_)] rfl ⟨zp rfl (oB rfl (ibind (f := int .i64) (Option.some.inj hv21))),zp rfl (LOp.drop [_] (oM rfl)),zz⟩ ?_
     exact pt_next _ (zi h).symm rfl
    ·have h := cond_f hb35 h
     refine ht_exit ?_
     refine pt_x_then ?_
     refine pt_x_then ?_
     refine pt_x_in ?_
     refine pt_pick [0,1] (by kernel_rfl) (es' := [(_,_),(_,_)]) rfl ?_
     exact hl30 _ (ho32 _ (zi h).symm).symm
  ·rintro u12 hl13 hr14 ⟨s8, s9⟩ rr17 h ho15
   refine zgg hn [_,_,_,(4,vb (decide (s9 < 288)))] [0,1,2] [0,1,2,3] [zq [2] 3 4] [(_,_),(_,_),(_,_),(_,_)] rfl ⟨z4 rfl rfl,zz⟩ ?_
   refine ht_seq ?_
   refine ht_cond _ rfl (fun hb18 => ?_) (fun hb18 => ?_)
   ·have h := cond_t hb18 h
    refine ht_skip ?_
    refine pt_then (ht_seq ?_)
    refine ht_block ?_
    refine zgg hn [_,_,_,_,(5,vi s9),(2,vi s9)] [0,1,2,3] [0,1,2,5] [zq [2] 4 5,zq [4] 5 2] [(_,_),(_,_),(_,_),(_,_)] rfl ⟨z1 rfl,z2 rfl,zz⟩ ?_
    obtain ⟨v2, hv2, h⟩ := zn h
    obtain ⟨v3, hv3, h⟩ := zn h
    refine zg hn [_,_,_,_,(6,.fl (.own 3) 1 (map (int .i64) s8)),(7,vi s9),(8,vi v2),(9,.fl (.own 3) 1 (map (int .i64) [v2])),(10,.fl (.own 3) 1 (map (int .i64) v3)),(6,.any),(0,.fl (.own 3) 1 (map (int .i64) v3))] [0,1,2,3] [1,2,10] [⟨[],[0],[4],[(.slot 6)]⟩,zq [3] 5 7,zq [5] 6 8,zq [6] 7 9,⟨[7],[4],[9,8],[(.slot 10)]⟩,⟨[],[8],[10],[(.slot 0)]⟩] [(_,_),(_,_),(_,_)] rfl ⟨zp rfl (op_move_take _ _ _ _ rfl),z1 rfl,zp rfl (op_call _ _ 81 _ _ rfl call81 rfl (ok_sym_fixedLen s9 _ hv2) rfl rfl),zp rfl (op_buildSlice _ _ 1 (.int .i64 0) (map (int .i64) [v2]) [(0, .int .i64 v2)] underlying37 sz3 zr3 (fun _ V w o a hv hes => by have e0 := rd_v hv hes (x := .tmp 8) rfl; simp only [List.map_toArray, List.map_cons, List.map_nil, e0]; try rfl) (litfill (by simp [Instr.fill, Value.cells]; rfl) (by simp [List.range, List.range.loop] <;> rfl)) (by simp [Value.oneCell']) rfl (by decide) (by decide) (by decide)),zp rfl (op_app _ _ _ _ _ el37 rfl rfl (map_len _) (map_len _) hv3 ((List.map_append).symm.trans (congrArg (map _) (app_eq hv3)))),zp rfl (op_assign_take _ _ _ _ rfl),zz⟩ ?_
    refine pt_inb ?_
    refine pt_then ?_
    obtain ⟨v4, hv4, h⟩ := zn h
    refine zg hn [_,_,_,(11,vi v4),(3,vi v4)] [0,1,2] [0,2,4] [zq [1] 3 11,⟨[3],[1],[4],[(.slot 3)]⟩] [(_,_),(_,_),(_,_)] rfl ⟨zp rfl (oB rfl (ibind (f := int .i64) (Option.some.inj hv4))),zp rfl (LOp.drop [_] (oM rfl)),zz⟩ ?_
    refine pt_pick [1,0,2] (by kernel_rfl) (es' := [(_,_),(_,_),(_,_)]) rfl ?_
    exact pt_next _ (zi h).symm rfl
   ·have h := cond_f hb18 h
    refine ht_exit ?_
    refine pt_x_then ?_
    refine pt_x_then ?_
    refine pt_x_in ?_
    refine pt_pick [0,1] (by kernel_rfl) (es' := [(_,_),(_,_)]) rfl ?_
    exact hl13 _ (ho15 _ (zi h).symm).symm
theorem ok_canon_valid (lengths : (List Int)) (r : Bool) (h : Sh.canon_valid lengths = some r) : FnOK Tryd.prog 116 [.fl .shr 1 (map (int .i64) lengths)] (.v (.bool r)) := by
  unfold Sh.canon_valid at h
  refine fn_ok func116 rfl (zl rfl) rfl rfl fun g0 hn hio => ?_
  refine zgg hn [_,(2,vb false)] [0] [0] [zq [] 1 2] [(_,_)] rfl ⟨z2 rfl,zz⟩ ?_
  refine ht_seq ?_
  refine zgg hn [_,(5,fi lengths),(6,vi (lengths.length : Int)),(7,vb (decide (300 < (lengths.length : Int))))] [0] [0,3] [zq [0] 1 5,zq [1] 2 6,zq [2] 3 7] [(_,_),(_,_)] rfl ⟨z1 rfl,zp rfl (op_len_fl _ _ _ underlying37 rfl (by decide) (map_len _)),z4 rfl rfl,zz⟩ ?_
  refine ht_cond _ rfl (fun hb1 => ?_) (fun hb1 => ?_)
  ·have h := cond_t hb1 h
   refine zgg hn [_,_,(2,vb false)] [0,1] [2] [zq [] 2 2] [(_,_)] rfl ⟨z2 rfl,zz⟩ ?_
   refine ht_ret ?_
   refine pt_r_then ?_
   obtain rfl := zi h
   exact pt_ret hio rfl (.tmp _ _ .nil) rfl rfl
  ·have h := cond_f hb1 h
   refine ht_skip ?_
   refine pt_then (ht_seq ?_)
   refine zgg hn [_,_,(8,fi lengths),(9,vi (lengths.length : Int)),(10,vi 0)] [0,1] [2,3,4] [zq [0] 2 8,zq [2] 3 9,zq [] 4 10] [(_,_),(_,_),(_,_)] rfl ⟨z1 rfl,zp rfl (op_len_fl _ _ _ underlying37 rfl (by decide) (map_len _)),z1 rfl,zz⟩ ?_
   refine ht_loopS h (fun (s18 : Int) => [(8,fi lengths),(9,vi (lengths.length : Int)),(10,vi s18)]) (fun (() : Unit) => []) ?_ ?_
   ·rintro ⟨⟩ h
    refine pt_then ?_
    refine zgg hn [(2,vb true)] [] [0] [zq [] 0 2] [(_,_)] rfl ⟨z2 rfl,zz⟩ ?_
    refine ht_ret ?_
    obtain rfl := zi h
    exact pt_ret hio rfl (.tmp _ _ .nil) rfl rfl
   ·rintro u25 hl26 hr27 s18 rr30 h ho28
    refine zgg hn [_,_,_,(11,vb (decide (s18 < (lengths.length : Int))))] [0,1,2] [0,1,2,3] [zq [2,1] 3 11] [(_,_),(_,_),(_,_),(_,_)] rfl ⟨z4 rfl rfl,zz⟩ ?_
    refine ht_seq ?_
    refine ht_cond _ rfl (fun hb31 => ?_) (fun hb31 => ?_)
    ·have h := cond_t hb31 h
     refine ht_skip ?_
     refine pt_then (ht_seq ?_)
     refine ht_block ?_
     refine ht_seq ?_
     obtain ⟨v3, hv3, h⟩ := zn h
     obtain ⟨v4, hv4, h⟩ := zn h
     refine zg hn [_,_,_,_,(12,.eref (.slot 8) (v3 * 1)),(13,vi v4),(4,vi v4)] [0,1,2,3] [0,1,2,6] [zq [0,2] 4 12,zq [4,0] 5 13,zq [5] 6 4] [(_,_),(_,_),(_,_),(_,_)] rfl ⟨zp rfl (op_ix _ _ _ _ _ _ _ _ underlying37 sz3 (by decide) rfl rfl rfl (ix_ok hv3).1 (map_lt (ix_ok hv3).2) rfl),zp rfl (op_load_e _ _ _ _ _ _ underlying3 rfl rfl rfl (map_get hv4)),z2 rfl,zz⟩ ?_
     refine pt_then (ht_seq ?_)
     refine ht_joinS h (fun (s32 : Bool) => [(8,fi lengths),(9,vi (lengths.length : Int)),(10,vi s18),(19,vb s32)]) ?_ ?_
     ·rintro s32 h
      refine pt_then ?_
      refine ht_cond _ rfl (fun hb36 => ?_) (fun hb36 => ?_)
      ·have h := cond_t hb36 h
       refine zgg hn [_,_,_,_,(2,vb false)] [0,1,2,3] [4] [zq [] 4 2] [(_,_)] rfl ⟨z2 rfl,zz⟩ ?_
       refine ht_ret ?_
       refine pt_r_in ?_
       refine pt_r_then ?_
       refine pt_r_then ?_
       refine pt_r_in ?_
       refine pt_r_then ?_
       have h := hr27 _ (ho28 _ (zi h).symm).symm
       obtain rfl := zi h
       exact pt_ret hio rfl (.tmp _ _ .nil) rfl rfl
      ·have h := cond_f hb36 h
       refine ht_skip ?_
       refine pt_inb ?_
       refine pt_then ?_
       obtain ⟨v10, hv10, h⟩ := zn h
       refine zg hn [_,_,_,_,(20,vi v10),(10,vi v10)] [0,1,2,3] [0,1,5] [zq [2] 4 20,⟨[4],[2],[5],[(.slot 10)]⟩] [(_,_),(_,_),(_,_)] rfl ⟨zp rfl (oB rfl (ibind (f := int .i64) (Option.some.inj hv10))),zp rfl (LOp.drop [_] (oM rfl)),zz⟩ ?_
       exact pt_next _ (zi h).symm rfl
     ·intro u33 h hl34 hr35
      refine cond_some h (fun hg6_2 h => ?_) (fun hg6_2 h => ?_)
      ·refine zg hn [_,_,_,_,(14,vi v4),(15,vb (decide (v4 < 0))),(16,vb true),(17,.v undef),(18,.v undef),(19,vb true)] [0,1,2,3] [0,1,2,9] [zq [3] 4 14,zq [4] 5 15,zq [5] 6 16,zq [6] 7 17,zq [6] 8 18,zq [6] 9 19] [(_,_),(_,_),(_,_),(_,_)] rfl ⟨z1 rfl,z4 rfl rfl,z8 hg6_2 rfl,zf rfl,zf rfl,z3 true rfl,zz⟩ ?_
       exact hl34 _ (zi h).symm
      ·refine zg hn [_,_,_,_,(14,vi v4),(15,vb (decide (v4 < 0))),(16,vb false),(17,vi v4),(18,vb (decide (15 < v4))),(19,vb (decide (15 < v4)))] [0,1,2,3] [0,1,2,9] [zq [3] 4 14,zq [4] 5 15,zq [5] 6 16,zq [6,3] 7 17,zq [6,7] 8 18,zq [6,8] 9 19] [(_,_),(_,_),(_,_),(_,_)] rfl ⟨z1 rfl,z4 rfl rfl,z8 hg6_2 rfl,zr' rfl (oM rfl),zr' rfl (oB rfl rfl),z3 false rfl,zz⟩ ?_
       exact hl34 _ (zi h).symm
    ·have h := cond_f hb31 h
     refine ht_exit ?_
     refine pt_x_then ?_
     refine pt_x_then ?_
     refine pt_x_in ?_
     refine pt_pick [] (by kernel_rfl) (es' := []) rfl ?_
     exact hl26 _ (ho28 _ (zi h).symm).symm
theorem ok_canon_count (lengths : (List Int)) (r : (List Int)) (h : Sh.canon_count lengths = some r) : FnOK Tryd.prog 105 [.fl .shr 1 (map (int .i64) lengths)] (.v (.agg (map (int .i64) r).toArray)) := by
  unfold Sh.canon_count at h
  refine fn_ok func105 rfl (zl rfl) rfl rfl fun g0 hn hio => ?_
  refine zgg hn [_,(2,.arr 124 (map (int .i64) ((List.replicate 16 (0 : Int)))))] [0] [0,1] [zq [] 1 2] [(_,_),(_,_)] rfl ⟨zp rfl (op_alloc_arr _ za124),zz⟩ ?_
  refine zgg hn [_,_,(3,.arr 124 (map (int .i64) ((List.replicate 16 (0 : Int)))))] [0,1] [0,1,2] [zq [] 2 3] [(_,_),(_,_),(_,_)] rfl ⟨zp rfl (op_alloc_arr _ za124),zz⟩ ?_
  refine ht_seq ?_
  refine zgg hn [_,_,_,(6,fi lengths),(7,vi (lengths.length : Int)),(8,vi 0)] [0,1,2] [1,2,3,4,5] [zq [0] 3 6,zq [3] 4 7,zq [] 5 8] [(_,_),(_,_),(_,_),(_,_),(_,_)] rfl ⟨z1 rfl,zp rfl (op_len_fl _ _ _ underlying37 rfl (by decide) (map_len _)),z1 rfl,zz⟩ ?_
  refine ht_loopS h (fun ((s25,s26) : (List Int) × Int) => [(2,.arr 124 (map (int .i64) ((List.replicate 16 (0 : Int))))),(3,.arr 124 (map (int .i64) s25)),(6,fi lengths),(7,vi (lengths.length : Int)),(8,vi s26)]) (fun (s34 : (List Int)) => [(2,.arr 124 (map (int .i64) ((List.replicate 16 (0 : Int))))),(3,.arr 124 (map (int .i64) s34))]) ?_ ?_
  ·rintro s34 h
   refine pt_then (ht_seq ?_)
   obtain ⟨v48, hv48, h⟩ := zn h
   obtain ⟨v49, hv49, h⟩ := zn h
   obtain ⟨v50, hv50, h⟩ := zn h
   refine zg hn [_,_,(20,.v (.agg (map (int .i64) s34).toArray)),(2,.arr 124 (map (int .i64) s34))] [0,1] [3] [zq [1] 2 20,⟨[2],[0],[3],[]⟩] [(_,_)] rfl ⟨zp rfl (op_loadA_arr _ _ _ _ underlying124 rfl (sz124.trans (congrArg some (ln_len hv48))) rfl rfl),zp rfl (op_storeA_arr _ _ _ _ (sz124.trans (congrArg some (ln_len hv50))) rfl rfl (ln_ones (fun _ => rfl) _) ((ln_len (f := int .i64) hv49).symm.trans (ln_len (f := int .i64) hv50))),zz⟩ ?_
   refine pt_then (ht_ret ?_)
   obtain ⟨v51, hv51, h⟩ := zn h
   obtain rfl := zi h
   exact pt_ret hio rfl (.cellR _ _ _ _ underlying124 rfl (sz124.trans (congrArg some (ln_len hv51))) .nil) rfl rfl
  ·rintro u35 hl36 hr37 ⟨s25, s26⟩ rr40 h ho38
   refine zgg hn [_,_,_,_,_,(9,vb (decide (s26 < (lengths.length : Int))))] [0,1,2,3,4] [0,1,2,3,4,5] [zq [4,3] 5 9] [(_,_),(_,_),(_,_),(_,_),(_,_),(_,_)] rfl ⟨z4 rfl rfl,zz⟩ ?_
   refine ht_seq ?_
   refine ht_cond _ rfl (fun hb41 => ?_) (fun hb41 => ?_)
   ·have h := cond_t hb41 h
    refine ht_skip ?_
    refine pt_then (ht_seq ?_)
    refine ht_joinS h (fun (s43 : (List Int)) => [(2,.arr 124 (map (int .i64) ((List.replicate 16 (0 : Int))))),(3,.arr 124 (map (int .i64) s43)),(6,fi lengths),(7,vi (lengths.length : Int)),(8,vi s26)]) ?_ ?_
    ·rintro s43 h
     refine pt_then ?_
     obtain ⟨v15, hv15, h⟩ := zn h
     refine zg hn [_,_,_,_,_,(19,vi v15),(8,vi v15)] [0,1,2,3,4] [0,1,2,3,6] [zq [4] 5 19,⟨[5],[4],[6],[(.slot 8)]⟩] [(_,_),(_,_),(_,_),(_,_),(_,_)] rfl ⟨zp rfl (oB rfl (ibind (f := int .i64) (Option.some.inj hv15))),zp rfl (LOp.drop [_] (oM rfl)),zz⟩ ?_
     exact pt_next _ (zi h).symm rfl
    ·intro u44 h hl45 hr46
     refine ht_block ?_
     refine ht_seq ?_
     obtain ⟨v2, hv2, h⟩ := zn h
     obtain ⟨v3, hv3, h⟩ := zn h
     refine zg hn [_,_,_,_,_,_,(10,.eref (.slot 6) (v2 * 1)),(11,vi v3),(5,vi v3)] [0,1,2,3,4,5] [0,1,2,3,4,8] [zq [2,4] 6 10,zq [6,2] 7 11,zq [7] 8 5] [(_,_),(_,_),(_,_),(_,_),(_,_),(_,_)] rfl ⟨zp rfl (op_ix _ _ _ _ _ _ _ _ underlying37 sz3 (by decide) rfl rfl rfl (ix_ok hv2).1 (map_lt (ix_ok hv2).2) rfl),zp rfl (op_load_e _ _ _ _ _ _ underlying3 rfl rfl rfl (map_get hv3)),z2 rfl,zz⟩ ?_
     refine pt_then ?_
     refine zgg hn [_,_,_,_,_,_,(12,vi v3),(13,vb (decide (0 < v3)))] [0,1,2,3,4,5] [0,1,2,3,4,5,7] [zq [5] 6 12,zq [6] 7 13] [(_,_),(_,_),(_,_),(_,_),(_,_),(_,_),(_,_)] rfl ⟨z1 rfl,z4 rfl rfl,zz⟩ ?_
     refine ht_cond _ rfl (fun hb47 => ?_) (fun hb47 => ?_)
     ·have h := cond_t hb47 h
      obtain ⟨v5, hv5, h⟩ := zn h
      obtain ⟨v6, hv6, h⟩ := zn h
      obtain ⟨v7, hv7, h⟩ := zn h
      obtain ⟨v8, hv8, h⟩ := zn h
      obtain ⟨v9, hv9, h⟩ := zn h
      refine zg hn [_,_,_,_,_,_,_,(14,vi v3),(15,.ptr 3 v5),(16,vi v6),(17,vi v7),(18,.ptr 3 v8),(3,.arr 124 (map (int .i64) v9))] [0,1,2,3,4,5,6] [0,12,2,3,4] [zq [5] 7 14,zq [1,7] 8 15,zq [8,1] 9 16,zq [9] 10 17,zq [1,7] 11 18,⟨[11,10],[1],[12],[]⟩] [(_,_),(_,_),(_,_),(_,_),(_,_)] rfl ⟨z1 rfl,zp rfl (op_ix_arr _ _ _ _ 16 3 _ underlying124 sz3 rfl rfl (ix_ok hv5).1 (ix_ok hv5).2 (by decide)),zp rfl (op_load_arr _ _ _ _ _ _ underlying3 rfl rfl rfl (map_get1 hv6)),zp rfl (oB rfl (ibind (f := int .i64) (Option.some.inj hv7))),zp rfl (op_ix_arr _ _ _ _ 16 3 _ underlying124 sz3 rfl rfl (ix_ok hv8).1 (ix_ok hv8).2 (by decide)),zp rfl (op_store_arr _ _ _ _ _ _ sz3 rfl rfl rfl rfl (set_lt hv9) (set_eq (f := int .i64) hv9)),zz⟩ ?_
      refine pt_inb ?_
      exact hl45 _ (zi h).symm
     ·have h := cond_f hb47 h
      refine ht_skip ?_
      refine pt_inb ?_
      refine pt_pick [0,1,2,3,4] (by kernel_rfl) (es' := [(_,_),(_,_),(_,_),(_,_),(_,_)]) rfl ?_
      exact hl45 _ (zi h).symm
   ·have h := cond_f hb41 h
    refine ht_exit ?_
    refine pt_x_then ?_
    refine pt_x_then ?_
    refine pt_x_in ?_
    refine pt_pick [0,1] (by kernel_rfl) (es' := [(_,_),(_,_)]) rfl ?_
    exact hl36 _ (ho38 _ (zi h).symm).symm
theorem ok_canon_tally_weight (c : (List Int)) (r : Int) (h : Sh.canon_tally_weight c = some r) : FnOK Tryd.prog 120 [.v (.agg (map (int .i64) c).toArray)] (.v (.int .i64 r)) := by
  unfold Sh.canon_tally_weight at h
  refine fn_ok func120 rfl (zl rfl) rfl rfl fun g0 hn hio => ?_
  refine zgg hn [_,(1,.arr 124 (map (int .i64) c)),(2,vi 0)] [0] [1] [zq [0] 1 1,zq [] 2 2] [(_,_)] rfl ⟨zp rfl (op_box_arr _ _ _ rfl),z2 rfl,zz⟩ ?_
  refine zgg hn [_,(3,vi 0)] [0] [0,1] [zq [] 1 3] [(_,_),(_,_)] rfl ⟨z2 rfl,zz⟩ ?_
  refine ht_seq ?_
  refine ht_seq ?_
  obtain ⟨v1, hv1, h⟩ := zn h
  refine zg hn [_,_,(6,.v (.agg (map (int .i64) c).toArray)),(7,vi 0)] [0,1] [1,2,3] [zq [0] 2 6,zq [] 3 7] [(_,_),(_,_),(_,_)] rfl ⟨zp rfl (op_loadA_arr _ _ _ _ underlying124 rfl (sz124.trans (congrArg some (ln_len hv1))) rfl rfl),z1 rfl,zz⟩ ?_
  refine pt_then ?_
  refine ht_loopS h (fun ((s12,s13) : Int × Int) => [(3,vi s12),(6,.v (.agg (map (int .i64) c).toArray)),(7,vi s13)]) (fun (s15 : Int) => [(3,vi s15)]) ?_ ?_
  ·rintro s15 h
   refine pt_then ?_
   refine zgg hn [_,(18,vi s15),(2,vi s15)] [0] [2] [zq [0] 1 18,zq [1] 2 2] [(_,_)] rfl ⟨z1 rfl,z2 rfl,zz⟩ ?_
   refine ht_ret ?_
   obtain rfl := zi h
   exact pt_ret hio rfl (.tmp _ _ .nil) rfl rfl
  ·rintro u16 hl17 hr18 ⟨s12, s13⟩ rr21 h ho19
   refine zgg hn [_,_,_,(8,vb (decide (s13 < 16)))] [0,1,2] [0,1,2,3] [zq [2] 3 8] [(_,_),(_,_),(_,_),(_,_)] rfl ⟨z4 rfl rfl,zz⟩ ?_
   refine ht_seq ?_
   refine ht_cond _ rfl (fun hb22 => ?_) (fun hb22 => ?_)
   ·have h := cond_t hb22 h
    refine ht_skip ?_
    refine pt_then (ht_seq ?_)
    refine ht_block ?_
    refine ht_seq ?_
    obtain ⟨v3, hv3, h⟩ := zn h
    obtain ⟨v4, hv4, h⟩ := zn h
    refine zg hn [_,_,_,_,(9,vi s13),(10,vi v4),(4,vi s13),(5,vi v4)] [0,1,2,3] [0,1,2,6,7] [zq [2] 4 9,zq [1,2] 5 10,zq [4] 6 4,zq [5] 7 5] [(_,_),(_,_),(_,_),(_,_),(_,_)] rfl ⟨z1 rfl,zp rfl (op_index_arr _ _ _ _ 16 v3 underlying124 sz3 rfl (congrArg (fun j => AV.v (int .i64 j)) (ix_ok hv3).1) (ix_ok hv3).2 (map_get1 hv4) ⟨_, underlying3, rfl⟩),z2 rfl,z2 rfl,zz⟩ ?_
    refine pt_then ?_
    obtain ⟨v5, hv5, h⟩ := zn h
    obtain ⟨v6, hv6, h⟩ := zn h
    obtain ⟨v7, hv7, h⟩ := zn h
    refine zg hn [_,_,_,_,_,(11,vi s12),(12,vi v4),(13,vi s13),(14,vi v5),(15,vi v6),(16,vi v7),(3,vi v7)] [0,1,2,3,4] [1,2,11] [zq [0] 5 11,zq [4] 6 12,zq [3] 7 13,zq [7] 8 14,zq [6,8] 9 15,zq [5,9] 10 16,⟨[10],[0],[11],[(.slot 3)]⟩] [(_,_),(_,_),(_,_)] rfl ⟨z1 rfl,z1 rfl,z1 rfl,zp rfl (oB rfl (ibind (f := int .i64) (Option.some.inj hv5))),zp rfl (oB rfl (shl_ok hv6)),zp rfl (oB rfl (ibind (f := int .i64) (Option.some.inj hv7))),zp rfl (LOp.drop [_] (op_assign _ _ _ _ rfl rfl)),zz⟩ ?_
    refine pt_inb ?_
    refine pt_then ?_
    obtain ⟨v8, hv8, h⟩ := zn h
    refine zg hn [_,_,_,(17,vi v8),(7,vi v8)] [0,1,2] [0,2,4] [zq [1] 3 17,⟨[3],[1],[4],[(.slot 7)]⟩] [(_,_),(_,_),(_,_)] rfl ⟨zp rfl (oB rfl (ibind (f := int .i64) (Option.some.inj hv8))),zp rfl (LOp.drop [_] (oM rfl)),zz⟩ ?_
    refine pt_pick [1,0,2] (by kernel_rfl) (es' := [(_,_),(_,_),(_,_)]) rfl ?_
    exact pt_next _ (zi h).symm rfl
   ·have h := cond_f hb22 h
    refine ht_exit ?_
    refine pt_x_then ?_
    refine pt_x_then ?_
    refine pt_x_in ?_
    refine pt_pick [0] (by kernel_rfl) (es' := [(_,_)]) rfl ?_
    exact hl17 _ (ho19 _ (zi h).symm).symm
theorem ok_canon_forms (c : (List Int)) (r : Bool) (h : Sh.canon_forms c = some r) : FnOK Tryd.prog 117 [.v (.agg (map (int .i64) c).toArray)] (.v (.bool r)) := by
  unfold Sh.canon_forms at h
  refine fn_ok func117 rfl (zl rfl) rfl rfl fun g0 hn hio => ?_
  refine zgg hn [_,(1,.arr 124 (map (int .i64) c)),(2,vb false)] [0] [1] [zq [0] 1 1,zq [] 2 2] [(_,_)] rfl ⟨zp rfl (op_box_arr _ _ _ rfl),z2 rfl,zz⟩ ?_
  refine ht_seq ?_
  obtain ⟨v1, hv1, h⟩ := zn h
  obtain ⟨v2, hv2, h⟩ := zn h
  refine zg hn [_,(4,.v (.agg (map (int .i64) (([(0 : Int),1,(0 : Int),(0 : Int),(0 : Int),(0 : Int),(0 : Int),(0 : Int),(0 : Int),(0 : Int),(0 : Int),(0 : Int),(0 : Int),(0 : Int),(0 : Int),(0 : Int)] : List Int))).toArray)),(3,.arr 124 (map (int .i64) ((List.replicate 16 (0 : Int))))),(3,.arr 124 (map (int .i64) (([(0 : Int),1,(0 : Int),(0 : Int),(0 : Int),(0 : Int),(0 : Int),(0 : Int),(0 : Int),(0 : Int),(0 : Int),(0 : Int),(0 : Int),(0 : Int),(0 : Int),(0 : Int)] : List Int))))] [0] [0,3] [zq [] 1 4,zq [] 2 3,⟨[1],[2],[3],[]⟩] [(_,_),(_,_)] rfl ⟨zp rfl (op_build_arr _ _ (.agg #[.int .i64 0, .int .i64 0, .int .i64 0, .int .i64 0, .int .i64 0, .int .i64 0, .int .i64 0, .int .i64 0, .int .i64 0, .int .i64 0, .int .i64 0, .int .i64 0, .int .i64 0, .int .i64 0, .int .i64 0, .int .i64 0]) (map (int .i64) (([(0 : Int), 1, (0 : Int), (0 : Int), (0 : Int), (0 : Int), (0 : Int), (0 : Int), (0 : Int), (0 : Int), (0 : Int), (0 : Int), (0 : Int), (0 : Int), (0 : Int), (0 : Int)] : List Int))) [(1, .int .i64 1)] underlying124 sz3 zr124 (fun _ V w o a hv hes => by simp only [List.map_toArray, List.map_cons, List.map_nil]; try rfl) (litfill (by simp [Instr.fill, Value.cells]; rfl) (by simp))),zp rfl (op_alloc_arr _ za124),zp rfl (op_storeA_arr _ _ _ _ (sz124.trans (congrArg some (ln_len hv2))) rfl rfl (ln_ones (fun _ => rfl) _) ((ln_len (f := int .i64) hv1).symm.trans (ln_len (f := int .i64) hv2))),zz⟩ ?_
  refine pt_then (ht_seq ?_)
  refine ht_joinS h (fun (s12 : Bool) => [(2,vb s12)]) ?_ ?_
  ·rintro s12 h
   refine pt_then (ht_ret ?_)
   obtain rfl := zi h
   exact pt_ret hio rfl (.tmp _ _ .nil) rfl rfl
  ·intro u13 h hl14 hr15
   obtain ⟨v3, hv3, h⟩ := zn h
   obtain ⟨v4, hv4, h⟩ := zn h
   obtain ⟨v5, hv5, h⟩ := zn h
   refine cond_some h (fun hg2_3 h => ?_) (fun hg2_3 h => ?_)
   ·refine zg hn (_::_::(5,.v (.agg (map (int .i64) c).toArray))::(6,.v (.agg (map (int .i64) (([(0 : Int),(0 : Int),(0 : Int),(0 : Int),(0 : Int),(0 : Int),(0 : Int),(0 : Int),(0 : Int),(0 : Int),(0 : Int),(0 : Int),(0 : Int),(0 : Int),(0 : Int),(0 : Int)] : List Int))).toArray))::(7,vb (c == (([(0 : Int),(0 : Int),(0 : Int),(0 : Int),(0 : Int),(0 : Int),(0 : Int),(0 : Int),(0 : Int),(0 : Int),(0 : Int),(0 : Int),(0 : Int),(0 : Int),(0 : Int),(0 : Int)] : List Int))))::(8,vb true)::(9,.v undef)::(10,.v undef)::(11,.v undef)::(12,vb true)::(13,vb true)::(14,.v undef)::(15,.v undef)::(16,.v undef)::(17,vb true)::(2,vb true)::[]) [0,1] [15] [zq [0] 2 5,zq [] 3 6,zq [2,3] 4 7,zq [4] 5 8,zq [5] 6 9,zq [5] 7 10,zq [5] 8 11,zq [5] 9 12,zq [9] 10 13,zq [10] 11 14,zq [10] 12 15,zq [10] 13 16,zq [10] 14 17,zq [14] 15 2] [(_,_)] rfl ⟨zp rfl (op_loadA_arr _ _ _ _ underlying124 rfl (sz124.trans (congrArg some (ln_len hv3))) rfl rfl),zp rfl (op_build_arr _ _ (.agg #[.int .i64 0, .int .i64 0, .int .i64 0, .int .i64 0, .int .i64 0, .int .i64 0, .int .i64 0, .int .i64 0, .int .i64 0, .int .i64 0, .int .i64 0, .int .i64 0, .int .i64 0, .int .i64 0, .int .i64 0, .int .i64 0]) (map (int .i64) (([(0 : Int), (0 : Int), (0 : Int), (0 : Int), (0 : Int), (0 : Int), (0 : Int), (0 : Int), (0 : Int), (0 : Int), (0 : Int), (0 : Int), (0 : Int), (0 : Int), (0 : Int), (0 : Int)] : List Int))) [] underlying124 sz3 zr124 (fun _ V w o a hv hes => by simp only [List.map_toArray, List.map_cons, List.map_nil]; try rfl) (litfill (by simp [Instr.fill, Value.cells]; rfl) (by simp))),zp rfl (op_eq_arr _ _ _ underlying124 underlying3 (i := Tryd.t3) (by kernel_rfl) (by kernel_rfl) (by kernel_rfl) rfl rfl (ln_n hv4) (ln_n hv5) rfl),z8 hg2_3 rfl,zf rfl,zf rfl,zf rfl,z3 true rfl,z1 rfl,zf rfl,zf rfl,zf rfl,z3 true rfl,z2 rfl,zz⟩ ?_
    exact hl14 _ (zi h).symm
   ·obtain ⟨v6, hv6, h⟩ := zn h
    obtain ⟨v7, hv7, h⟩ := zn h
    obtain ⟨v8, hv8, h⟩ := zn h
    obtain ⟨v9, hv9, h⟩ := zn h
    refine cond_some h (fun hg2_8 h => ?_) (fun hg2_8 h => ?_)
    ·refine zg hn (_::_::(5,.v (.agg (map (int .i64) c).toArray))::(6,.v (.agg (map (int .i64) (([(0 : Int),(0 : Int),(0 : Int),(0 : Int),(0 : Int),(0 : Int),(0 : Int),(0 : Int),(0 : Int),(0 : Int),(0 : Int),(0 : Int),(0 : Int),(0 : Int),(0 : Int),(0 : Int)] : List Int))).toArray))::(7,vb (c == (([(0 : Int),(0 : Int),(0 : Int),(0 : Int),(0 : Int),(0 : Int),(0 : Int),(0 : Int),(0 : Int),(0 : Int),(0 : Int),(0 : Int),(0 : Int),(0 : Int),(0 : Int),(0 : Int)] : List Int))))::(8,vb false)::(9,.v (.agg (map (int .i64) c).toArray))::(10,.v (.agg (map (int .i64) (([(0 : Int),1,(0 : Int),(0 : Int),(0 : Int),(0 : Int),(0 : Int),(0 : Int),(0 : Int),(0 : Int),(0 : Int),(0 : Int),(0 : Int),(0 : Int),(0 : Int),(0 : Int)] : List Int))).toArray))::(11,vb (c == (([(0 : Int),1,(0 : Int),(0 : Int),(0 : Int),(0 : Int),(0 : Int),(0 : Int),(0 : Int),(0 : Int),(0 : Int),(0 : Int),(0 : Int),(0 : Int),(0 : Int),(0 : Int)] : List Int))))::(12,vb (c == (([(0 : Int),1,(0 : Int),(0 : Int),(0 : Int),(0 : Int),(0 : Int),(0 : Int),(0 : Int),(0 : Int),(0 : Int),(0 : Int),(0 : Int),(0 : Int),(0 : Int),(0 : Int)] : List Int))))::(13,vb true)::(14,.v undef)::(15,.v undef)::(16,.v undef)::(17,vb true)::(2,vb true)::[]) [0,1] [15] [zq [0] 2 5,zq [] 3 6,zq [2,3] 4 7,zq [4] 5 8,zq [5,0] 6 9,zq [5,1] 7 10,zq [5,6,7] 8 11,zq [5,8] 9 12,zq [9] 10 13,zq [10] 11 14,zq [10] 12 15,zq [10] 13 16,zq [10] 14 17,zq [14] 15 2] [(_,_)] rfl ⟨zp rfl (op_loadA_arr _ _ _ _ underlying124 rfl (sz124.trans (congrArg some (ln_len hv3))) rfl rfl),zp rfl (op_build_arr _ _ (.agg #[.int .i64 0, .int .i64 0, .int .i64 0, .int .i64 0, .int .i64 0, .int .i64 0, .int .i64 0, .int .i64 0, .int .i64 0, .int .i64 0, .int .i64 0, .int .i64 0, .int .i64 0, .int .i64 0, .int .i64 0, .int .i64 0]) (map (int .i64) (([(0 : Int), (0 : Int), (0 : Int), (0 : Int), (0 : Int), (0 : Int), (0 : Int), (0 : Int), (0 : Int), (0 : Int), (0 : Int), (0 : Int), (0 : Int), (0 : Int), (0 : Int), (0 : Int)] : List Int))) [] underlying124 sz3 zr124 (fun _ V w o a hv hes => by simp only [List.map_toArray, List.map_cons, List.map_nil]; try rfl) (litfill (by simp [Instr.fill, Value.cells]; rfl) (by simp))),zp rfl (op_eq_arr _ _ _ underlying124 underlying3 (i := Tryd.t3) (by kernel_rfl) (by kernel_rfl) (by kernel_rfl) rfl rfl (ln_n hv4) (ln_n hv5) rfl),z8 hg2_3 rfl,zr' rfl (op_loadA_arr _ _ _ _ underlying124 rfl (sz124.trans (congrArg some (ln_len hv6))) rfl rfl),zr' rfl (op_loadA_arr _ _ _ _ underlying124 rfl (sz124.trans (congrArg some (ln_len hv7))) rfl rfl),zr' rfl (op_eq_arr _ _ _ underlying124 underlying3 (i := Tryd.t3) (by kernel_rfl) (by kernel_rfl) (by kernel_rfl) rfl rfl (ln_n hv8) (ln_n hv9) rfl),z3 false rfl,z8 hg2_8 rfl,zf rfl,zf rfl,zf rfl,z3 true rfl,z2 rfl,zz⟩ ?_
     exact hl14 _ (zi h).symm
    ·obtain ⟨v10, hv10, h⟩ := zn h
     obtain ⟨v11, hv11, h⟩ := zn h
     refine zg hn (_::_::(5,.v (.agg (map (int .i64) c).toArray))::(6,.v (.agg (map (int .i64) (([(0 : Int),(0 : Int),(0 : Int),(0 : Int),(0 : Int),(0 : Int),(0 : Int),(0 : Int),(0 : Int),(0 : Int),(0 : Int),(0 : Int),(0 : Int),(0 : Int),(0 : Int),(0 : Int)] : List Int))).toArray))::(7,vb (c == (([(0 : Int),(0 : Int),(0 : Int),(0 : Int),(0 : Int),(0 : Int),(0 : Int),(0 : Int),(0 : Int),(0 : Int),(0 : Int),(0 : Int),(0 : Int),(0 : Int),(0 : Int),(0 : Int)] : List Int))))::(8,vb false)::(9,.v (.agg (map (int .i64) c).toArray))::(10,.v (.agg (map (int .i64) (([(0 : Int),1,(0 : Int),(0 : Int),(0 : Int),(0 : Int),(0 : Int),(0 : Int),(0 : Int),(0 : Int),(0 : Int),(0 : Int),(0 : Int),(0 : Int),(0 : Int),(0 : Int)] : List Int))).toArray))::(11,vb (c == (([(0 : Int),1,(0 : Int),(0 : Int),(0 : Int),(0 : Int),(0 : Int),(0 : Int),(0 : Int),(0 : Int),(0 : Int),(0 : Int),(0 : Int),(0 : Int),(0 : Int),(0 : Int)] : List Int))))::(12,vb (c == (([(0 : Int),1,(0 : Int),(0 : Int),(0 : Int),(0 : Int),(0 : Int),(0 : Int),(0 : Int),(0 : Int),(0 : Int),(0 : Int),(0 : Int),(0 : Int),(0 : Int),(0 : Int)] : List Int))))::(13,vb false)::(14,.v (.agg (map (int .i64) c).toArray))::(15,vi v11)::(16,vb (v11 == 32768))::(17,vb (v11 == 32768))::(2,vb (v11 == 32768))::[]) [0,1] [15] [zq [0] 2 5,zq [] 3 6,zq [2,3] 4 7,zq [4] 5 8,zq [5,0] 6 9,zq [5,1] 7 10,zq [5,6,7] 8 11,zq [5,8] 9 12,zq [9] 10 13,zq [10,0] 11 14,zq [10,11] 12 15,zq [10,12] 13 16,zq [10,13] 14 17,zq [14] 15 2] [(_,_)] rfl ⟨zp rfl (op_loadA_arr _ _ _ _ underlying124 rfl (sz124.trans (congrArg some (ln_len hv3))) rfl rfl),zp rfl (op_build_arr _ _ (.agg #[.int .i64 0, .int .i64 0, .int .i64 0, .int .i64 0, .int .i64 0, .int .i64 0, .int .i64 0, .int .i64 0, .int .i64 0, .int .i64 0, .int .i64 0, .int .i64 0, .int .i64 0, .int .i64 0, .int .i64 0, .int .i64 0]) (map (int .i64) (([(0 : Int), (0 : Int), (0 : Int), (0 : Int), (0 : Int), (0 : Int), (0 : Int), (0 : Int), (0 : Int), (0 : Int), (0 : Int), (0 : Int), (0 : Int), (0 : Int), (0 : Int), (0 : Int)] : List Int))) [] underlying124 sz3 zr124 (fun _ V w o a hv hes => by simp only [List.map_toArray, List.map_cons, List.map_nil]; try rfl) (litfill (by simp [Instr.fill, Value.cells]; rfl) (by simp))),zp rfl (op_eq_arr _ _ _ underlying124 underlying3 (i := Tryd.t3) (by kernel_rfl) (by kernel_rfl) (by kernel_rfl) rfl rfl (ln_n hv4) (ln_n hv5) rfl),z8 hg2_3 rfl,zr' rfl (op_loadA_arr _ _ _ _ underlying124 rfl (sz124.trans (congrArg some (ln_len hv6))) rfl rfl),zr' rfl (op_loadA_arr _ _ _ _ underlying124 rfl (sz124.trans (congrArg some (ln_len hv7))) rfl rfl),zr' rfl (op_eq_arr _ _ _ underlying124 underlying3 (i := Tryd.t3) (by kernel_rfl) (by kernel_rfl) (by kernel_rfl) rfl rfl (ln_n hv8) (ln_n hv9) rfl),z3 false rfl,z8 hg2_8 rfl,zr' rfl (op_loadA_arr _ _ _ _ underlying124 rfl (sz124.trans (congrArg some (ln_len hv10))) rfl rfl),zr' rfl (op_call _ _ 120 _ _ rfl call120 rfl (ok_canon_tally_weight c _ hv11) rfl rfl),zr' rfl (oB rfl rfl),z3 false rfl,z2 rfl,zz⟩ ?_
     exact hl14 _ (zi h).symm
theorem ok_canon_Check (lengths : (List Int)) (r : Int) (h : Sh.canon_Check lengths = some r) : FnOK Tryd.prog 103 [.fl .shr 1 (map (int .i64) lengths)] (.v (.int .i64 r)) := by
  unfold Sh.canon_Check at h
  refine fn_ok func103 rfl (zl rfl) rfl rfl fun g0 hn hio => ?_
  refine zgg hn [_,(2,vi 0)] [0] [0] [zq [] 1 2] [(_,_)] rfl ⟨z2 rfl,zz⟩ ?_
  refine ht_seq ?_
  refine ht_seq ?_
  obtain ⟨v1, hv1, h⟩ := zn h
  refine zg hn [_,(3,fi lengths),(4,vb v1),(5,vb (!v1))] [0] [0,3] [zq [0] 1 3,zq [1] 2 4,zq [2] 3 5] [(_,_),(_,_)] rfl ⟨z1 rfl,zp rfl (op_call _ _ 116 _ _ rfl call116 rfl (ok_canon_valid lengths _ hv1) rfl rfl),zp rfl (op_un _ _ _ _ rfl rfl),zz⟩ ?_
  refine pt_then ?_
  refine ht_cond _ rfl (fun hb2 => ?_) (fun hb2 => ?_)
  ·have h := cond_t hb2 h
   refine zgg hn [_,_,(2,vi 1)] [0,1] [2] [zq [] 2 2] [(_,_)] rfl ⟨z2 rfl,zz⟩ ?_
   refine ht_ret ?_
   refine pt_r_then ?_
   obtain rfl := zi h
   exact pt_ret hio rfl (.tmp _ _ .nil) rfl rfl
  ·have h := cond_f hb2 h
   refine ht_skip ?_
   refine pt_then (ht_seq ?_)
   refine ht_seq ?_
   obtain ⟨v3, hv3, h⟩ := zn h
   obtain ⟨v4, hv4, h⟩ := zn h
   refine zg hn [_,_,(6,fi lengths),(7,.v (.agg (map (int .i64) v3).toArray)),(8,vb v4),(9,vb (!v4))] [0,1] [5] [zq [0] 2 6,zq [2] 3 7,zq [3] 4 8,zq [4] 5 9] [(_,_)] rfl ⟨z1 rfl,zp rfl (op_call _ _ 105 _ _ rfl call105 rfl (ok_canon_count lengths _ hv3) rfl rfl),zp rfl (op_call _ _ 117 _ _ rfl call117 rfl (ok_canon_forms v3 _ hv4) rfl rfl),zp rfl (op_un _ _ _ _ rfl rfl),zz⟩ ?_
   refine pt_then ?_
   refine ht_cond _ rfl (fun hb5 => ?_) (fun hb5 => ?_)
   ·have h := cond_t hb5 h
    refine zgg hn [_,(2,vi 4)] [0] [1] [zq [] 1 2] [(_,_)] rfl ⟨z2 rfl,zz⟩ ?_
    refine ht_ret ?_
    refine pt_r_then ?_
    obtain rfl := zi h
    exact pt_ret hio rfl (.tmp _ _ .nil) rfl rfl
   ·have h := cond_f hb5 h
    refine ht_skip ?_
    refine pt_then ?_
    refine zgg hn [_,(2,vi 0)] [0] [1] [zq [] 1 2] [(_,_)] rfl ⟨z2 rfl,zz⟩ ?_
    refine ht_ret ?_
    obtain rfl := zi h
    exact pt_ret hio rfl (.tmp _ _ .nil) rfl rfl
theorem ok_canon_firsts (c : (List Int)) (r : (List Int)) (h : Sh.canon_firsts c = some r) : FnOK Tryd.prog 104 [.v (.agg (map (int .i64) c).toArray)] (.v (.agg (map (int .i64) r).toArray)) := by
  unfold Sh.canon_firsts at h
  refine fn_ok func104 rfl (zl rfl) rfl rfl fun g0 hn hio => ?_
  refine zgg hn [_,(1,.arr 124 (map (int .i64) c)),(2,.arr 124 (map (int .i64) ((List.replicate 16 (0 : Int)))))] [0] [1,2] [zq [0] 1 1,zq [] 2 2] [(_,_),(_,_)] rfl ⟨zp rfl (op_box_arr _ _ _ rfl),zp rfl (op_alloc_arr _ za124),zz⟩ ?_
  refine zgg hn [_,_,(3,.arr 124 (map (int .i64) ((List.replicate 16 (0 : Int)))))] [0,1] [0,1,2] [zq [] 2 3] [(_,_),(_,_),(_,_)] rfl ⟨zp rfl (op_alloc_arr _ za124),zz⟩ ?_
  refine ht_seq ?_
  refine zgg hn [_,_,_,(4,vi 2)] [0,1,2] [0,1,2,3] [zq [] 3 4] [(_,_),(_,_),(_,_),(_,_)] rfl ⟨z2 rfl,zz⟩ ?_
  refine ht_loopS h (fun ((s16,s17) : (List Int) × Int) => [(1,.arr 124 (map (int .i64) c)),(2,.arr 124 (map (int .i64) ((List.replicate 16 (0 : Int))))),(3,.arr 124 (map (int .i64) s16)),(4,vi s17)]) (fun (s19 : (List Int)) => [(2,.arr 124 (map (int .i64) ((List.replicate 16 (0 : Int))))),(3,.arr 124 (map (int .i64) s19))]) ?_ ?_
  ·rintro s19 h
   refine pt_then (ht_seq ?_)
   obtain ⟨v27, hv27, h⟩ := zn h
   obtain ⟨v28, hv28, h⟩ := zn h
   obtain ⟨v29, hv29, h⟩ := zn h
   refine zg hn [_,_,(21,.v (.agg (map (int .i64) s19).toArray)),(2,.arr 124 (map (int .i64) s19))] [0,1] [3] [zq [1] 2 21,⟨[2],[0],[3],[]⟩] [(_,_)] rfl ⟨zp rfl (op_loadA_arr _ _ _ _ underlying124 rfl (sz124.trans (congrArg some (ln_len hv27))) rfl rfl),zp rfl (op_storeA_arr _ _ _ _ (sz124.trans (congrArg some (ln_len hv29))) rfl rfl (ln_ones (fun _ => rfl) _) ((ln_len (f := int .i64) hv28).symm.trans (ln_len (f := int .i64) hv29))),zz⟩ ?_
   refine pt_then (ht_ret ?_)
   obtain ⟨v30, hv30, h⟩ := zn h
   obtain rfl := zi h
   exact pt_ret hio rfl (.cellR _ _ _ _ underlying124 rfl (sz124.trans (congrArg some (ln_len hv30))) .nil) rfl rfl
  ·rintro u20 hl21 hr22 ⟨s16, s17⟩ rr25 h ho23
   refine ht_seq ?_
   refine zgg hn [_,_,_,_,(5,vi s17),(6,vb (decide (s17 ≤ 15)))] [0,1,2,3] [0,1,2,3,5] [zq [3] 4 5,zq [4] 5 6] [(_,_),(_,_),(_,_),(_,_),(_,_)] rfl ⟨z1 rfl,z4 rfl rfl,zz⟩ ?_
   refine ht_cond _ rfl (fun hb26 => ?_) (fun hb26 => ?_)
   ·have h := cond_t hb26 h
    refine ht_skip ?_
    refine pt_then (ht_seq ?_)
    refine ht_block ?_
    obtain ⟨v2, hv2, h⟩ := zn h
    obtain ⟨v3, hv3, h⟩ := zn h
    obtain ⟨v4, hv4, h⟩ := zn h
    obtain ⟨v5, hv5, h⟩ := zn h
    obtain ⟨v6, hv6, h⟩ := zn h
    obtain ⟨v7, hv7, h⟩ := zn h
    obtain ⟨v8, hv8, h⟩ := zn h
    obtain ⟨v9, hv9, h⟩ := zn h
    obtain ⟨v10, hv10, h⟩ := zn h
    obtain ⟨v11, hv11, h⟩ := zn h
    refine ht_anyR (by kernel_rfl) hn (El := (_ :: _ :: _ :: _ :: _ :: (9,vi s17) :: (10,vi s17) :: (11,vi v2) :: (12,.ptr 3 v3) :: (13,vi v4) :: (14,vi s17) :: (15,vi v5) :: (16,.ptr 1 v6) :: (17,vi v7) :: (18,vi v8) :: (19,vi v9) :: (20,.ptr 3 v10) :: (3,.arr 124 (map (int .i64) v11)) :: [])) (init := [0,1,2,3,4]) (fin := [0,1,17,3]) (sps := [zq [3] 5 9,zq [3] 6 10,zq [6] 7 11,zq [2,7] 8 12,zq [8,2] 9 13,zq [3] 10 14,zq [10] 11 15,zq [0,11] 12 16,zq [12,0] 13 17,zq [9,13] 14 18,zq [14] 15 19,zq [2,5] 16 20,⟨[16,15],[2],[17],[]⟩]) (es' := [(_,_),(_,_),(3,.arr 124 (map (int .i64) v11)),(_,_)]) (by kernel_rfl) rfl rfl ⟨z1 rfl,z1 rfl,zp rfl (oB rfl (ibind (f := int .i64) (Option.some.inj hv2))),zp rfl (op_ix_arr _ _ _ _ 16 3 _ underlying124 sz3 rfl rfl (ix_ok hv3).1 (ix_ok hv3).2 (by decide)),zp rfl (op_load_arr _ _ _ _ _ _ underlying3 rfl rfl rfl (map_get1 hv4)),z1 rfl,zp rfl (oB rfl (ibind (f := int .i64) (Option.some.inj hv5))),zp rfl (op_ix_arr _ _ _ _ 16 1 _ underlying124 sz3 rfl rfl (ix_ok hv6).1 (ix_ok hv6).2 (by decide)),zp rfl (op_load_arr _ _ _ _ _ _ underlying3 rfl rfl rfl (map_get1 hv7)),zp rfl (oB rfl (ibind (f := int .i64) (Option.some.inj hv8))),zp rfl (oB rfl (ibind (f := int .i64) (Option.some.inj hv9))),zp rfl (op_ix_arr _ _ _ _ 16 3 _ underlying124 sz3 rfl rfl (ix_ok hv10).1 (ix_ok hv10).2 (by decide)),zp rfl (op_store_arr _ _ _ _ _ _ sz3 rfl rfl rfl rfl (set_lt hv11) (set_eq (f := int .i64) hv11)),zz⟩ ?_
    refine pt_inb ?_
    refine pt_then ?_
    obtain ⟨v12, hv12, h⟩ := zn h
    refine zg hn [_,_,_,_,(7,vi s17),(8,vi v12),(4,vi v12)] [0,1,2,3] [0,1,2,6] [zq [3] 4 7,zq [4] 5 8,⟨[5],[3],[6],[(.slot 4)]⟩] [(_,_),(_,_),(_,_),(_,_)] rfl ⟨z1 rfl,zp rfl (oB rfl (ibind (f := int .i64) (Option.some.inj hv12))),zp rfl (LOp.drop [_] (op_assign _ _ _ _ rfl rfl)),zz⟩ ?_
    exact pt_next _ (zi h).symm rfl
   ·have h := cond_f hb26 h
    refine ht_exit ?_
    refine pt_x_then ?_
    refine pt_x_then ?_
    refine pt_x_in ?_
    refine pt_pick [1,2] (by kernel_rfl) (es' := [(_,_),(_,_)]) rfl ?_
    exact hl21 _ (ho23 _ (zi h).symm).symm
theorem ok_canon_Codes (lengths : (List Int)) (r : ((List Int) × Int)) (h : Sh.canon_Codes lengths = some r) : FnOK Tryd.prog 85 [.fl .shr 1 (map (int .i64) lengths)] (.tup [.fl (.own 3) 1 (map (int .i64) r.1), .v (.int .i64 r.2)]) := by
  unfold Sh.canon_Codes at h
  refine fn_ok func85 rfl (zl rfl) rfl rfl fun g0 hn hio => ?_
  refine zgg hn [_,(2,vz),(3,vi 0)] [0] [0] [zq [] 1 2,zq [] 2 3] [(_,_)] rfl ⟨z2 rfl,z2 rfl,zz⟩ ?_
  refine ht_seq ?_
  refine ht_seq ?_
  obtain ⟨v1, hv1, h⟩ := zn h
  refine zg hn [_,(9,fi lengths),(10,vi v1),(4,vi v1)] [0] [0,3] [zq [0] 1 9,zq [1] 2 10,zq [2] 3 4] [(_,_),(_,_)] rfl ⟨z1 rfl,zp rfl (op_call _ _ 103 _ _ rfl call103 rfl (ok_canon_Check lengths _ hv1) rfl rfl),z2 rfl,zz⟩ ?_
  refine pt_then ?_
  refine zgg hn [_,_,(11,vi v1),(12,vb (v1 != 0))] [0,1] [0,1,3] [zq [1] 2 11,zq [2] 3 12] [(_,_),(_,_),(_,_)] rfl ⟨z1 rfl,z4 rfl rfl,zz⟩ ?_
  refine ht_cond _ rfl (fun hb2 => ?_) (fun hb2 => ?_)
  ·have h := cond_t hb2 h
   refine zgg hn [_,_,_,(13,vi v1),(2,vz),(3,vi v1)] [0,1,2] [4,5] [zq [1] 3 13,zq [] 4 2,zq [3] 5 3] [(_,_),(_,_)] rfl ⟨z1 rfl,z2 rfl,z2 rfl,zz⟩ ?_
   refine ht_ret ?_
   refine pt_sub (fs := [(2,.fl (.own 3) 1 (map (int .i64) [])),(3,vi v1)]) (.sub _ (sub_nil 3 1) rfl (.same _ .nil)) ?_
   refine pt_r_then ?_
   obtain rfl := zi h
   exact pt_ret hio rfl (.tmp _ _ (.tmp _ _ .nil)) rfl rfl
  ·have h := cond_f hb2 h
   refine ht_skip ?_
   refine pt_then (ht_seq ?_)
   obtain ⟨v3, hv3, h⟩ := zn h
   obtain ⟨v4, hv4, h⟩ := zn h
   obtain ⟨v5, hv5, h⟩ := zn h
   obtain ⟨v6, hv6, h⟩ := zn h
   refine zg hn [_,_,_,(14,fi lengths),(15,.v (.agg (map (int .i64) v3).toArray)),(16,.v (.agg (map (int .i64) v4).toArray)),(5,.arr 124 (map (int .i64) ((List.replicate 16 (0 : Int))))),(5,.arr 124 (map (int .i64) v4))] [0,1,2] [0,7] [zq [0] 3 14,zq [3] 4 15,zq [4] 5 16,zq [] 6 5,⟨[5],[6],[7],[]⟩] [(_,_),(_,_)] rfl ⟨z1 rfl,zp rfl (op_call _ _ 105 _ _ rfl call105 rfl (ok_canon_count lengths _ hv3) rfl rfl),zp rfl (op_call _ _ 104 _ _ rfl call104 rfl (ok_canon_firsts v3 _ hv4) rfl rfl),zp rfl (op_alloc_arr _ za124),zp rfl (op_storeA_arr _ _ _ _ (sz124.trans (congrArg some (ln_len hv6))) rfl rfl (ln_ones (fun _ => rfl) _) ((ln_len (f := int .i64) hv5).symm.trans (ln_len (f := int .i64) hv6))),zz⟩ ?_
   refine pt_then (ht_seq ?_)
   obtain ⟨v7, hv7, h⟩ := zn h
   refine zg hn [_,_,(17,fi lengths),(18,vi (lengths.length : Int)),(19,.fl (.own 3) 1 (map (int .i64) v7)),(6,.fl (.own 3) 1 (map (int .i64) v7))] [0,1] [0,1,5] [zq [0] 2 17,zq [2] 3 18,zq [3] 4 19,⟨[],[4],[5],[(.slot 6)]⟩] [(_,_),(_,_),(_,_)] rfl ⟨z1 rfl,zp rfl (op_len_fl _ _ _ underlying37 rfl (by decide) (map_len _)),zp rfl (op_mk (f := int .i64) _ _ _ _ el37 (by decide) zr3 rfl rfl rfl hv7),zp rfl (op_assign_take _ _ _ _ rfl),zz⟩ ?_
   refine pt_then (ht_seq ?_)
   refine zgg hn [_,_,_,(20,fi lengths),(21,vi (lengths.length : Int)),(22,vi 0)] [0,1,2] [1,2,3,4,5] [zq [0] 3 20,zq [3] 4 21,zq [] 5 22] [(_,_),(_,_),(_,_),(_,_),(_,_)] rfl ⟨z1 rfl,zp rfl (op_len_fl _ _ _ underlying37 rfl (by decide) (map_len _)),z1 rfl,zz⟩ ?_
   refine ht_loopS h (fun ((s39,s40,s41) : (List Int) × (List Int) × Int) => [(5,.arr 124 (map (int .i64) s39)),(6,.fl (.own 3) 1 (map (int .i64) s40)),(20,fi lengths),(21,vi (lengths.length : Int)),(22,vi s41)]) (fun (s50 : (List Int)) => [(6,.fl (.own 3) 1 (map (int .i64) s50))]) ?_ ?_
   ·rintro s50 h
    refine pt_then ?_
    refine zgg hn [_,(41,.fl (.own 3) 1 (map (int .i64) s50)),(2,.fl (.own 3) 1 (map (int .i64) s50)),(3,vi 0)] [0] [2,3] [⟨[],[0],[1],[(.slot 41)]⟩,⟨[],[1],[2],[(.slot 2)]⟩,zq [] 3 3] [(_,_),(_,_)] rfl ⟨zp rfl (op_move_take _ _ _ _ rfl),zp rfl (op_assign_take _ _ _ _ rfl),z2 rfl,zz⟩ ?_
    refine ht_ret ?_
    obtain rfl := zi h
    exact pt_ret hio rfl (.tmp _ _ (.tmp _ _ .nil)) rfl rfl
   ·rintro u51 hl52 hr53 ⟨s39, s40, s41⟩ rr56 h ho54
    refine zgg hn [_,_,_,_,_,(23,vb (decide (s41 < (lengths.length : Int))))] [0,1,2,3,4] [0,1,2,3,4,5] [zq [4,3] 5 23] [(_,_),(_,_),(_,_),(_,_),(_,_),(_,_)] rfl ⟨z4 rfl rfl,zz⟩ ?_
    refine ht_seq ?_
    refine ht_cond _ rfl (fun hb57 => ?_) (fun hb57 => ?_)
    ·have h := cond_t hb57 h
     refine ht_skip ?_
     refine pt_then (ht_seq ?_)
     refine ht_joinS h (fun ((s59,s60) : (List Int) × (List Int)) => [(5,.arr 124 (map (int .i64) s59)),(6,.fl (.own 3) 1 (map (int .i64) s60)),(20,fi lengths),(21,vi (lengths.length : Int)),(22,vi s41)]) ?_ ?_
     ·rintro ⟨s59, s60⟩ h
      refine pt_then ?_
      obtain ⟨v27, hv27, h⟩ := zn h
      refine zg hn [_,_,_,_,_,(40,vi v27),(22,vi v27)] [0,1,2,3,4] [0,1,2,3,6] [zq [4] 5 40,⟨[5],[4],[6],[(.slot 22)]⟩] [(_,_),(_,_),(_,_),(_,_),(_,_)] rfl ⟨zp rfl (oB rfl (ibind (f := int .i64) (Option.some.inj hv27))),zp rfl (LOp.drop [_] (oM rfl)),zz⟩ ?_
      exact pt_next _ (zi h).symm rfl
     ·intro u61 h hl62 hr63
      refine ht_block ?_
      refine ht_seq ?_
      obtain ⟨v9, hv9, h⟩ := zn h
      obtain ⟨v10, hv10, h⟩ := zn h
      refine zg hn [_,_,_,_,_,_,(24,vi s41),(25,.eref (.slot 20) (v9 * 1)),(26,vi v10),(7,vi s41),(8,vi v10)] [0,1,2,3,4,5] [0,1,2,3,4,9,10] [zq [4] 6 24,zq [2,4] 7 25,zq [7,2] 8 26,zq [6] 9 7,zq [8] 10 8] [(_,_),(_,_),(_,_),(_,_),(_,_),(_,_),(_,_)] rfl ⟨z1 rfl,zp rfl (op_ix _ _ _ _ _ _ _ _ underlying37 sz3 (by decide) rfl rfl rfl (ix_ok hv9).1 (map_lt (ix_ok hv9).2) rfl),zp rfl (op_load_e _ _ _ _ _ _ underlying3 rfl rfl rfl (map_get hv10)),z2 rfl,z2 rfl,zz⟩ ?_
      refine pt_then ?_
      refine zgg hn [_,_,_,_,_,_,_,(27,vi v10),(28,vb (decide (0 < v10)))] [0,1,2,3,4,5,6] [0,1,2,3,4,5,6,8] [zq [6] 7 27,zq [7] 8 28] [(_,_),(_,_),(_,_),(_,_),(_,_),(_,_),(_,_),(_,_)] rfl ⟨z1 rfl,z4 rfl rfl,zz⟩ ?_
      refine ht_cond _ rfl (fun hb64 => ?_) (fun hb64 => ?_)
      ·have h := cond_t hb64 h
       refine ht_seq ?_
       obtain ⟨v12, hv12, h⟩ := zn h
       obtain ⟨v13, hv13, h⟩ := zn h
       obtain ⟨v14, hv14, h⟩ := zn h
       obtain ⟨v15, hv15, h⟩ := zn h
       refine zg hn (_::_::_::_::_::_::_::_::(29,.same (.slot 6))::(30,vi s41)::(31,vi v10)::(32,.ptr 5 v12)::(33,vi v13)::(34,.eref (.slot 6) (v14 * 1))::(6,.fl (.own 3) 1 (map (int .i64) v15))::[]) [0,1,2,3,4,5,6,7] [0,14,2,3,4,6] [zq [1] 8 29,zq [5] 9 30,zq [6] 10 31,zq [0,10] 11 32,zq [11,0] 12 33,zq [8,1,9] 13 34,⟨[13,12],[1],[14],[]⟩] [(_,_),(_,_),(_,_),(_,_),(_,_),(_,_)] rfl ⟨z1 rfl,z1 rfl,z1 rfl,zp rfl (op_ix_arr _ _ _ _ 16 5 _ underlying124 sz3 rfl rfl (ix_ok hv12).1 (ix_ok hv12).2 (by decide)),zp rfl (op_load_arr _ _ _ _ _ _ underlying3 rfl rfl rfl (map_get1 hv13)),zp rfl (op_ix _ _ _ _ _ _ _ _ underlying37 sz3 (by decide) rfl rfl rfl (ix_ok hv14).1 (map_lt (ix_ok hv14).2) rfl),zp rfl (op_store_e _ _ _ _ _ _ _ _ sz3 rfl rfl rfl (by decide) (map_lt (ix_ok hv14).2) ((map_set (f := int .i64) _ (ix_ok hv14).2).trans (congrArg (map _) (Option.some.inj hv15)))),zz⟩ ?_
       refine pt_then ?_
       obtain ⟨v16, hv16, h⟩ := zn h
       obtain ⟨v17, hv17, h⟩ := zn h
       obtain ⟨v18, hv18, h⟩ := zn h
       obtain ⟨v19, hv19, h⟩ := zn h
       obtain ⟨v20, hv20, h⟩ := zn h
       refine zg hn [_,_,_,_,_,_,(35,vi v10),(36,.ptr 5 v16),(37,vi v17),(38,vi v18),(39,.ptr 5 v19),(5,.arr 124 (map (int .i64) v20))] [0,1,2,3,4,5] [11,1,2,3,4] [zq [5] 6 35,zq [0,6] 7 36,zq [7,0] 8 37,zq [8] 9 38,zq [0,6] 10 39,⟨[10,9],[0],[11],[]⟩] [(_,_),(_,_),(_,_),(_,_),(_,_)] rfl ⟨z1 rfl,zp rfl (op_ix_arr _ _ _ _ 16 5 _ underlying124 sz3 rfl rfl (ix_ok hv16).1 (ix_ok hv16).2 (by decide)),zp rfl (op_load_arr _ _ _ _ _ _ underlying3 rfl rfl rfl (map_get1 hv17)),zp rfl (oB rfl (ibind (f := int .i64) (Option.some.inj hv18))),zp rfl (op_ix_arr _ _ _ _ 16 5 _ underlying124 sz3 rfl rfl (ix_ok hv19).1 (ix_ok hv19).2 (by decide)),zp rfl (op_store_arr _ _ _ _ _ _ sz3 rfl rfl rfl rfl (set_lt hv20) (set_eq (f := int .i64) hv20)),zz⟩ ?_
       refine pt_inb ?_
       exact hl62 _ (zi h).symm
      ·have h := cond_f hb64 h
       refine ht_skip ?_
       refine pt_inb ?_
       refine pt_pick [0,1,2,3,4] (by kernel_rfl) (es' := [(_,_),(_,_),(_,_),(_,_),(_,_)]) rfl ?_
       exact hl62 _ (zi h).symm
    ·have h := cond_f hb57 h
     refine ht_exit ?_
     refine pt_x_then ?_
     refine pt_x_then ?_
     refine pt_x_in ?_
     refine pt_pick [1] (by kernel_rfl) (es' := [(_,_)]) rfl ?_
     exact hl52 _ (ho54 _ (zi h).symm).symm
theorem ok_shrink_newCode_ro (lengths : (List Int)) (r : T_shrink_code) (h : Sh.shrink_newCode_ro lengths = some r) : FnOK Tryd.prog 61 [.fl .ro 1 (map (int .i64) lengths)] (.agg [.fl .ro 1 (map (int .i64) r.lengths), .fl .ro 1 (map (int .i64) r.codes)]) := by
  unfold Sh.shrink_newCode_ro at h
  refine fn_ok func61 rfl (zl rfl) rfl rfl fun g0 hn hio => ?_
  refine zgg hn [_,(2,.box 87 [vz,vz])] [0] [0,1] [zq [] 1 2] [(_,_),(_,_)] rfl ⟨zp rfl (op_alloc _ _ zr87),zz⟩ ?_
  refine ht_seq ?_
  obtain ⟨v1, hv1, h⟩ := zn h
  refine zg hn [_,_,(6,.fl .ro 1 (map (int .i64) lengths)),(7,.tup [.fl (.own 3) 1 (map (int .i64) v1.1),vi v1.2]),(5,.tup [.fl (.own 3) 1 (map (int .i64) v1.1),vi v1.2]),(8,.fl (.own 3) 1 (map (int .i64) v1.1)),(5,.tup [.any,vi v1.2]),(9,vi v1.2),(3,.fl (.own 3) 1 (map (int .i64) v1.1)),(4,vi v1.2)] [0,1] [0,1,8] [zq [0] 2 6,zq [2] 3 7,⟨[],[3],[4],[(.slot 5)]⟩,⟨[],[4],[6,5],[(.slot 8)]⟩,zq [6] 7 9,⟨[],[5],[8],[(.slot 3)]⟩,zq [7] 9 4] [(_,_),(_,_),(_,_)] rfl ⟨z1 rfl,zp rfl (op_call _ _ 85 _ _ rfl call85 rfl (ok_canon_Codes lengths _ hv1) rfl rfl),zp rfl (op_move_take _ _ _ _ rfl),zp rfl (op_extract_take _ _ _ _ _ rfl (zl rfl) rfl rfl (by decide) rfl),zp rfl (oE rfl),zp rfl (op_assign_take _ _ _ _ rfl),z2 rfl,zz⟩ ?_
  refine pt_then ?_
  refine zgg hn [_,_,_,(10,.fl .ro 1 (map (int .i64) lengths)),(11,.fl (.own 3) 1 (map (int .i64) v1.1)),(12,.agg [.fl .ro 1 (map (int .i64) lengths),.fl (.own 3) 1 (map (int .i64) v1.1)]),(2,.box 87 [.fl .ro 1 (map (int .i64) lengths),.fl (.own 3) 1 (map (int .i64) v1.1)])] [0,1,2] [6] [zq [0] 3 10,⟨[],[2],[4],[(.slot 11)]⟩,⟨[3],[4],[5],[(.slot 12)]⟩,⟨[],[5,1],[6],[.cell 2 0,.cell 2 1]⟩] [(_,_)] rfl ⟨z1 rfl,zp rfl (op_move_take _ _ _ _ rfl),zp rfl (op_build _ _ _ _ [1, 1] _ _ underlying87 zr87 (fs87 _ underlying87) (.copy _ (.take _ _ Src.nil)) rfl rfl rfl),zp rfl (op_store_take _ _ _ _ _ _ _ _ sz87 rfl rfl rfl (zl rfl) rfl rfl),zz⟩ ?_
  refine ht_ret ?_
  refine pt_frz 0 hio (es' := [(2, .box 87 [.fl .ro 1 (map (int .i64) lengths), .fl .ro 1 (map (int .i64) v1.1)])]) rfl ?_
  obtain rfl := zi h
  exact pt_ret hio rfl (.cellA _ _ _ _ underlying87 rfl sz87 .nil) rfl rfl
theorem ok_bits_fits (v : Int) (n : Int) (r : Bool) (h : Sh.bits_fits v n = some r) : FnOK Tryd.prog 114 [.v (.int .i64 v), .v (.int .i64 n)] (.v (.bool r)) := by
  unfold Sh.bits_fits at h
  refine fn_ok func114 rfl (zl rfl) rfl rfl fun g0 hn hio => ?_
  refine zgg hn [_,_,(4,vb false)] [0,1] [0,1] [zq [] 2 4] [(_,_),(_,_)] rfl ⟨z2 rfl,zz⟩ ?_
  refine ht_seq ?_
  refine ht_joinS h (fun (s2 : Bool) => [(4,vb s2)]) ?_ ?_
  ·rintro s2 h
   refine pt_then (ht_ret ?_)
   obtain rfl := zi h
   exact pt_ret hio rfl (.tmp _ _ .nil) rfl rfl
  ·intro u3 h hl4 hr5
   refine cond_some h (fun hg1_2 h => ?_) (fun hg1_2 h => ?_)
   ·refine cond_some h (fun hg1_6 h => ?_) (fun hg1_6 h => ?_)
    ·refine cond_some h (fun hg1_10 h => ?_) (fun hg1_10 h => ?_)
     ·obtain ⟨v1, hv1, h⟩ := zn h
      refine zg hn (_::_::(5,vi n)::(6,vb (decide (0 ≤ n)))::(7,vb true)::(8,vi n)::(9,vb (decide (n ≤ 24)))::(10,vb (decide (n ≤ 24)))::(11,vb true)::(12,vi v)::(13,vb (decide (0 ≤ v)))::(14,vb (decide (0 ≤ v)))::(15,vb true)::(16,vi v)::(17,vi n)::(18,vi v1)::(19,vb (decide (v < v1)))::(20,vb (decide (v < v1)))::(4,vb (decide (v < v1)))::[]) [0,1] [18] (zq [1] 2 5::zq [2] 3 6::zq [3] 4 7::zq [4,1] 5 8::zq [4,5] 6 9::zq [4,6] 7 10::zq [7] 8 11::zq [8,0] 9 12::zq [8,9] 10 13::zq [8,10] 11 14::zq [11] 12 15::zq [12,0] 13 16::zq [12,1] 14 17::zq [12,14] 15 18::zq [12,13,15] 16 19::zq [12,16] 17 20::zq [17] 18 4::[]) [(_,_)] rfl ⟨z1 rfl,z4 rfl rfl,z8 hg1_2 rfl,zr' rfl (oM rfl),zr' rfl (oB rfl rfl),z3 true rfl,z8 hg1_6 rfl,zr' rfl (oM rfl),zr' rfl (oB rfl rfl),z3 true rfl,z8 hg1_10 rfl,zr' rfl (oM rfl),zr' rfl (oM rfl),zr' rfl (oB rfl (shl_ok hv1)),zr' rfl (oB rfl rfl),z3 true rfl,z2 rfl,zz⟩ ?_
      exact hl4 _ (zi h).symm
     ·refine zg hn (_::_::(5,vi n)::(6,vb (decide (0 ≤ n)))::(7,vb true)::(8,vi n)::(9,vb (decide (n ≤ 24)))::(10,vb (decide (n ≤ 24)))::(11,vb true)::(12,vi v)::(13,vb (decide (0 ≤ v)))::(14,vb (decide (0 ≤ v)))::(15,vb false)::(16,.v undef)::(17,.v undef)::(18,.v undef)::(19,.v undef)::(20,vb false)::(4,vb false)::[]) [0,1] [18] (zq [1] 2 5::zq [2] 3 6::zq [3] 4 7::zq [4,1] 5 8::zq [4,5] 6 9::zq [4,6] 7 10::zq [7] 8 11::zq [8,0] 9 12::zq [8,9] 10 13::zq [8,10] 11 14::zq [11] 12 15::zq [12] 13 16::zq [12] 14 17::zq [12] 15 18::zq [12] 16 19::zq [12] 17 20::zq [17] 18 4::[]) [(_,_)] rfl ⟨z1 rfl,z4 rfl rfl,z8 hg1_2 rfl,zr' rfl (oM rfl),zr' rfl (oB rfl rfl),z3 true rfl,z8 hg1_6 rfl,zr' rfl (oM rfl),zr' rfl (oB rfl rfl),z3 true rfl,z8 hg1_10 rfl,zt rfl,zt rfl,zt rfl,zt rfl,z3 false rfl,z2 rfl,zz⟩ ?_
      exact hl4 _ (zi h).symm
    ·refine zg hn (_::_::(5,vi n)::(6,vb (decide (0 ≤ n)))::(7,vb true)::(8,vi n)::(9,vb (decide (n ≤ 24)))::(10,vb (decide (n ≤ 24)))::(11,vb false)::(12,.v undef)::(13,.v undef)::(14,vb false)::(15,vb false)::(16,.v undef)::(17,.v undef)::(18,.v undef)::(19,.v undef)::(20,vb false)::(4,vb false)::[]) [0,1] [18] (zq [1] 2 5::zq [2] 3 6::zq [3] 4 7::zq [4,1] 5 8::zq [4,5] 6 9::zq [4,6] 7 10::zq [7] 8 11::zq [8] 9 12::zq [8] 10 13::zq [8] 11 14::zq [11] 12 15::zq [12] 13 16::zq [12] 14 17::zq [12] 15 18::zq [12] 16 19::zq [12] 17 20::zq [17] 18 4::[]) [(_,_)] rfl ⟨z1 rfl,z4 rfl rfl,z8 hg1_2 rfl,zr' rfl (oM rfl),zr' rfl (oB rfl rfl),z3 true rfl,z8 hg1_6 rfl,zt rfl,zt rfl,z3 false rfl,z1 rfl,zt rfl,zt rfl,zt rfl,zt rfl,z3 false rfl,z2 rfl,zz⟩ ?_
     exact hl4 _ (zi h).symm
   ·refine zg hn (_::_::(5,vi n)::(6,vb (decide (0 ≤ n)))::(7,vb false)::(8,.v undef)::(9,.v undef)::(10,vb false)::(11,vb false)::(12,.v undef)::(13,.v undef)::(14,vb false)::(15,vb false)::(16,.v undef)::(17,.v undef)::(18,.v undef)::(19,.v undef)::(20,vb false)::(4,vb false)::[]) [0,1] [18] (zq [1] 2 5::zq [2] 3 6::zq [3] 4 7::zq [4] 5 8::zq [4] 6 9::zq [4] 7 10::zq [7] 8 11::zq [8] 9 12::zq [8] 10 13::zq [8] 11 14::zq [11] 12 15::zq [12] 13 16::zq [12] 14 17::zq [12] 15 18::zq [12] 16 19::zq [12] 17 20::zq [17] 18 4::[]) [(_,_)] rfl ⟨z1 rfl,z4 rfl rfl,z8 hg1_2 rfl,zt rfl,zt rfl,z3 false rfl,z1 rfl,zt rfl,zt rfl,z3 false rfl,z1 rfl,zt rfl,zt rfl,zt rfl,zt rfl,z3 false rfl,z2 rfl,zz⟩ ?_
    exact hl4 _ (zi h).symm
theorem ok_bits_Turn (v : Int) (n : Int) (r : (Int × Int)) (h : Sh.bits_Turn v n = some r) : FnOK Tryd.prog 99 [.v (.int .i64 v), .v (.int .i64 n)] (.tup [.v (.int .i64 r.1), .v (.int .i64 r.2)]) := by
  unfold Sh.bits_Turn at h
  refine fn_ok func99 rfl (zl rfl) rfl rfl fun g0 hn hio => ?_
  refine zgg hn [_,_,(4,vi 0),(5,vi 0)] [0,1] [0,1] [zq [] 2 4,zq [] 3 5] [(_,_),(_,_)] rfl ⟨z2 rfl,z2 rfl,zz⟩ ?_
  refine ht_seq ?_
  refine ht_seq ?_
  obtain ⟨v1, hv1, h⟩ := zn h
  refine zg hn [_,_,(8,vi v),(9,vi n),(10,vb v1),(11,vb (!v1))] [0,1] [0,1,5] [zq [0] 2 8,zq [1] 3 9,zq [2,3] 4 10,zq [4] 5 11] [(_,_),(_,_),(_,_)] rfl ⟨z1 rfl,z1 rfl,zp rfl (op_call _ _ 114 _ _ rfl call114 rfl (ok_bits_fits v n _ hv1) rfl rfl),zp rfl (op_un _ _ _ _ rfl rfl),zz⟩ ?_
  refine pt_then ?_
  refine ht_cond _ rfl (fun hb2 => ?_) (fun hb2 => ?_)
  ·have h := cond_t hb2 h
   refine zgg hn [_,_,_,(4,vi 0),(5,vi 1)] [0,1,2] [3,4] [zq [] 3 4,zq [] 4 5] [(_,_),(_,_)] rfl ⟨z2 rfl,z2 rfl,zz⟩ ?_
   refine ht_ret ?_
   refine pt_r_then ?_
   obtain rfl := zi h
   exact pt_ret hio rfl (.tmp _ _ (.tmp _ _ .nil)) rfl rfl
  ·have h := cond_f hb2 h
   refine ht_skip ?_
   refine pt_then ?_
   refine zgg hn [_,_,_,(6,.v (.int .u32 0))] [0,1,2] [0,1,3] [zq [] 3 6] [(_,_),(_,_),(_,_)] rfl ⟨z2 rfl,zz⟩ ?_
   refine ht_seq ?_
   refine ht_seq ?_
   obtain ⟨v3, hv3, h⟩ := zn h
   refine zg hn [_,_,_,(12,vi v),(13,.v (.int .u32 v3)),(7,.v (.int .u32 v3))] [0,1,2] [1,2,5] [zq [0] 3 12,zq [3] 4 13,zq [4] 5 7] [(_,_),(_,_),(_,_)] rfl ⟨z1 rfl,zp rfl ((Option.some.inj hv3) ▸ op_conv _ _ _ underlying3 underlying100 rfl),z2 rfl,zz⟩ ?_
   refine pt_then ?_
   refine ht_loopS h (fun ((s14,s15,s16) : Int × Int × Int) => [(1,vi s14),(6,.v (.int .u32 s15)),(7,.v (.int .u32 s16))]) (fun (s18 : Int) => [(6,.v (.int .u32 s18))]) ?_ ?_
   ·rintro s18 h
    refine pt_then (ht_seq ?_)
    obtain ⟨v26, hv26, h⟩ := zn h
    refine zg hn [_,(25,.v (.int .u32 s18)),(26,vi v26),(4,vi v26),(5,vi 0)] [0] [3,4] [zq [0] 1 25,zq [1] 2 26,zq [2] 3 4,zq [] 4 5] [(_,_),(_,_)] rfl ⟨z1 rfl,zp rfl ((Option.some.inj hv26) ▸ op_conv _ _ _ underlying100 underlying3 rfl),z2 rfl,z2 rfl,zz⟩ ?_
    refine pt_then (ht_ret ?_)
    obtain rfl := zi h
    exact pt_ret hio rfl (.tmp _ _ (.tmp _ _ .nil)) rfl rfl
   ·rintro u19 hl20 hr21 ⟨s14, s15, s16⟩ rr24 h ho22
    refine ht_seq ?_
    refine zgg hn [_,_,_,(14,vi s14),(15,vb (decide (0 < s14)))] [0,1,2] [0,1,2,4] [zq [0] 3 14,zq [3] 4 15] [(_,_),(_,_),(_,_),(_,_)] rfl ⟨z1 rfl,z4 rfl rfl,zz⟩ ?_
    refine ht_cond _ rfl (fun hb25 => ?_) (fun hb25 => ?_)
    ·have h := cond_t hb25 h
     refine ht_skip ?_
     refine pt_then (ht_seq ?_)
     refine ht_block ?_
     refine ht_seq ?_
     obtain ⟨v5, hv5, h⟩ := zn h
     obtain ⟨v6, hv6, h⟩ := zn h
     obtain ⟨v7, hv7, h⟩ := zn h
     refine zg hn [_,_,_,_,(18,.v (.int .u32 s15)),(19,.v (.int .u32 v5)),(20,.v (.int .u32 s16)),(21,.v (.int .u32 v6)),(22,.v (.int .u32 v7)),(6,.v (.int .u32 v7))] [0,1,2,3] [0,2,9] [zq [1] 4 18,zq [4] 5 19,zq [2] 6 20,zq [6] 7 21,zq [5,7] 8 22,⟨[8],[1],[9],[(.slot 6)]⟩] [(_,_),(_,_),(_,_)] rfl ⟨z1 rfl,zp rfl (oB rfl (shl_ok hv5)),z1 rfl,zp rfl (oB rfl (ibind (f := int .u32) (Option.some.inj hv6))),zp rfl (oB rfl (ibind (f := int .u32) (Option.some.inj hv7))),zp rfl (LOp.drop [_] (op_assign _ _ _ _ rfl rfl)),zz⟩ ?_
     refine pt_then ?_
     obtain ⟨v8, hv8, h⟩ := zn h
     refine zg hn [_,_,_,(23,.v (.int .u32 s16)),(24,.v (.int .u32 v8)),(7,.v (.int .u32 v8))] [0,1,2] [0,2,5] [zq [1] 3 23,zq [3] 4 24,⟨[4],[1],[5],[(.slot 7)]⟩] [(_,_),(_,_),(_,_)] rfl ⟨z1 rfl,zp rfl (oB rfl (shr_ok hv8)),zp rfl (LOp.drop [_] (op_assign _ _ _ _ rfl rfl)),zz⟩ ?_
     refine pt_inb ?_
     refine pt_then ?_
     obtain ⟨v9, hv9, h⟩ := zn h
     refine zg hn [_,_,_,(16,vi s14),(17,vi v9),(1,vi v9)] [0,1,2] [1,2,5] [zq [0] 3 16,zq [3] 4 17,⟨[4],[0],[5],[(.slot 1)]⟩] [(_,_),(_,_),(_,_)] rfl ⟨z1 rfl,zp rfl (oB rfl (ibind (f := int .i64) (Option.some.inj hv9))),zp rfl (LOp.drop [_] (op_assign _ _ _ _ rfl rfl)),zz⟩ ?_
     refine pt_pick [2,0,1] (by kernel_rfl) (es' := [(_,_),(_,_),(_,_)]) rfl ?_
     exact pt_next _ (zi h).symm rfl
    ·have h := cond_f hb25 h
     refine ht_exit ?_
     refine pt_x_then ?_
     refine pt_x_then ?_
     refine pt_x_in ?_
     refine pt_pick [1] (by kernel_rfl) (es' := [(_,_)]) rfl ?_
     exact hl20 _ (ho22 _ (zi h).symm).symm
theorem ok_shrink_writer_putSym (w : T_shrink_writer) (c : T_shrink_code) (s : Int) (r : T_shrink_writer) (h : Sh.shrink_writer_putSym w c s = some r) : FnP Tryd.prog 82 [.box 57 [.fl (.own 5) 1 (map (int .u8) w.b), .v (.int .i64 w.n)], .agg [.fl .shr 1 (map (int .i64) c.lengths), .fl .shr 1 (map (int .i64) c.codes)], .v (.int .i64 s)] [.box 57 [.fl (.own 5) 1 (map (int .u8) r.b), .v (.int .i64 r.n)]] (.tup []) := by
  unfold Sh.shrink_writer_putSym at h
  refine fn_okP func82 rfl (zl rfl) rfl (zl rfl) fun args0 hargs0 g0 hn hio => ?_
  refine zgg hn [_,_,_,_,(4,.box 87 [fi c.lengths,fi c.codes])] [0,1,2,3] [0,2,3,4] [zq [1] 4 4] [(_,_),(_,_),(_,_),(_,_)] rfl ⟨zp rfl (op_box _ _ _ _ rfl rfl rfl),zz⟩ ?_
  refine ht_seq ?_
  obtain ⟨v1, hv1, h⟩ := zn h
  obtain ⟨v2, hv2, h⟩ := zn h
  obtain ⟨v3, hv3, h⟩ := zn h
  obtain ⟨v4, hv4, h⟩ := zn h
  obtain ⟨v5, hv5, h⟩ := zn h
  refine ht_anyR (by kernel_rfl) hn (El := (_ :: _ :: _ :: _ :: (9,.ptr 4 1) :: (10,fi c.codes) :: (11,vi s) :: (12,.eref (.slot 10) (v1 * 1)) :: (13,vi v2) :: (14,.ptr 4 0) :: (15,fi c.lengths) :: (16,vi s) :: (17,.eref (.slot 15) (v3 * 1)) :: (18,vi v4) :: (19,.tup [vi v5.1,vi v5.2]) :: (8,.tup [vi v5.1,vi v5.2]) :: (20,vi v5.1) :: (21,vi v5.2) :: (6,vi v5.1) :: (7,vi v5.2) :: [])) (init := [0,1,2,3]) (fin := [0,1,2,3,18]) (sps := (zq [3] 4 9 :: zq [4,3] 5 10 :: zq [1] 6 11 :: zq [5,6] 7 12 :: zq [7,5] 8 13 :: zq [3] 9 14 :: zq [9,3] 10 15 :: zq [1] 11 16 :: zq [10,11] 12 17 :: zq [12,10] 13 18 :: zq [8,13] 14 19 :: ⟨[],[14],[15],[(.slot 8)]⟩ :: zq [15] 16 20 :: zq [15] 17 21 :: zq [16] 18 6 :: zq [17] 19 7 :: [])) (es' := [(_,_),(_,_),(_,_),(_,_),(6,vi v5.1)]) (by kernel_rfl) rfl rfl ⟨zp rfl (oF underlying87 rfl sz37),zp rfl (oL underlying37 rfl),z1 rfl,zp rfl (op_ix _ _ _ _ _ _ _ _ underlying37 sz3 (by decide) rfl rfl rfl (ix_ok hv1).1 (map_lt (ix_ok hv1).2) rfl),zp rfl (op_load_e _ _ _ _ _ _ underlying3 rfl rfl rfl (map_get hv2)),zp rfl (oF underlying87 rfl sz37),zp rfl (oL underlying37 rfl),z1 rfl,zp rfl (op_ix _ _ _ _ _ _ _ _ underlying37 sz3 (by decide) rfl rfl rfl (ix_ok hv3).1 (map_lt (ix_ok hv3).2) rfl),zp rfl (op_load_e _ _ _ _ _ _ underlying3 rfl rfl rfl (map_get hv4)),zp rfl (op_call _ _ 99 _ _ rfl call99 rfl (ok_bits_Turn v2 v4 _ hv5) rfl rfl),zp rfl (op_move_take _ _ _ _ rfl),zp rfl (oE rfl),zp rfl (oE rfl),z2 rfl,z2 rfl,zz⟩ ?_
  refine pt_then ?_
  obtain ⟨v6, hv6, h⟩ := zn h
  obtain ⟨v7, hv7, h⟩ := zn h
  obtain ⟨v8, hv8, h⟩ := zn h
  refine zg hn [_,_,_,_,_,(22,.ptr 0 0),(23,vi v5.1),(24,.ptr 4 0),(25,fi c.lengths),(26,vi s),(27,.eref (.slot 25) (v6 * 1)),(28,vi v7),(29,.tup []),(0,.box 57 [.fl (.own 5) 1 (map (int .u8) v8.b),vi v8.n])] [0,1,2,3,4] [13,2] [zq [0] 5 22,zq [4] 6 23,zq [3] 7 24,zq [7,3] 8 25,zq [1] 9 26,zq [8,9] 10 27,zq [10,8] 11 28,⟨[5,6,11],[0],[13,12],[(.slot 29),(.cell 0 0),(.cell 0 1)]⟩] [(_,_),(_,_)] rfl ⟨z1 rfl,z1 rfl,zp rfl (oF underlying87 rfl sz37),zp rfl (oL underlying37 rfl),z1 rfl,zp rfl (op_ix _ _ _ _ _ _ _ _ underlying37 sz3 (by decide) rfl rfl rfl (ix_ok hv6).1 (map_lt (ix_ok hv6).2) rfl),zp rfl (op_load_e _ _ _ _ _ _ underlying3 rfl rfl rfl (map_get hv7)),zp rfl (op_callP _ _ _ _ 29 55 [.tmp 22] [.tmp 23, .tmp 28] _ _ _ rfl call55 rfl rfl rfl (ok_shrink_writer_put w v5.1 v7 _ hv8) (zl rfl) rfl rfl rfl rfl rfl rfl rfl rfl),zz⟩ ?_
  obtain rfl := zi h
  exact pt_endP (es := []) (posts := [.box 57 [.fl (.own 5) 1 (map (int .u8) v8.b), .v (.int .i64 v8.n)]]) hio rfl rfl .nil rfl rfl hargs0 rfl
theorem ok_sym_lens (r : T_sym_scale) (h : Sh.sym_lens  = some r) : FnOK Tryd.prog 100 [] (.agg [.v (.int .i64 r.least), .v (.int .i64 r.singles), .v (.int .i64 r.group)]) := by
  unfold Sh.sym_lens at h
  refine fn_ok func100 rfl (zl rfl) rfl rfl fun g0 hn hio => ?_
  refine zgg hn [(0,.box 119 [vi 0,vi 0,vi 0])] [] [0] [zq [] 0 0] [(_,_)] rfl ⟨zp rfl (op_alloc _ _ zr119),zz⟩ ?_
  refine zgg hn [_,(1,.agg [vi 3,vi 8,vi 4]),(0,.box 119 [vi 3,vi 8,vi 4])] [0] [2] [zq [] 1 1,⟨[1],[0],[2],[.cell 0 0,.cell 0 1,.cell 0 2]⟩] [(_,_)] rfl ⟨zp rfl (op_build _ _ _ _ [1, 1, 1] _ _ underlying119 zr119 (fs119 _ underlying119) (.copy _ (.copy _ (.copy _ Src.nil))) rfl rfl rfl),zp rfl (oS sz119 rfl),zz⟩ ?_
  refine ht_ret ?_
  obtain rfl := zi h
  exact pt_ret hio rfl (.cellA _ _ _ _ underlying119 rfl sz119 .nil) rfl rfl
theorem ok_sym_scale_symbol (s : T_sym_scale) (sym : Int) (r : (Int × Int)) (h : Sh.sym_scale_symbol s sym = some r) : FnOK Tryd.prog 115 [.agg [.v (.int .i64 s.least), .v (.int .i64 s.singles), .v (.int .i64 s.group)], .v (.int .i64 sym)] (.tup [.v (.int .i64 r.1), .v (.int .i64 r.2)]) := by
  unfold Sh.sym_scale_symbol at h
  refine fn_ok func115 rfl (zl rfl) rfl rfl fun g0 hn hio => ?_
  refine zgg hn [_,_,(2,.box 119 [vi s.least,vi s.singles,vi s.group]),(4,vi 0),(5,vi 0)] [0,1] [1,2] [zq [0] 2 2,zq [] 3 4,zq [] 4 5] [(_,_),(_,_)] rfl ⟨zp rfl (op_box _ _ _ _ rfl rfl rfl),z2 rfl,z2 rfl,zz⟩ ?_
  refine ht_seq ?_
  refine zgg hn [_,_,(7,vi sym),(8,.ptr 2 1),(9,vi s.singles),(10,vb (decide (sym < s.singles)))] [0,1] [0,1,5] [zq [0] 2 7,zq [1] 3 8,zq [3,1] 4 9,zq [2,4] 5 10] [(_,_),(_,_),(_,_)] rfl ⟨z1 rfl,zp rfl (oF underlying119 rfl sz3),zp rfl (oL underlying3 rfl),z4 rfl rfl,zz⟩ ?_
  refine ht_cond _ rfl (fun hb1 => ?_) (fun hb1 => ?_)
  ·have h := cond_t hb1 h
   refine ht_seq ?_
   obtain ⟨v2, hv2, h⟩ := zn h
   refine zg hn [_,_,_,(11,.ptr 2 0),(12,vi s.least),(13,vi sym),(14,vi v2),(4,vi v2),(5,vi 0)] [0,1,2] [7,8] [zq [1] 3 11,zq [3,1] 4 12,zq [0] 5 13,zq [4,5] 6 14,zq [6] 7 4,zq [] 8 5] [(_,_),(_,_)] rfl ⟨zp rfl (oF underlying119 rfl sz3),zp rfl (oL underlying3 rfl),z1 rfl,zp rfl (oB rfl (ibind (f := int .i64) (Option.some.inj hv2))),z2 rfl,z2 rfl,zz⟩ ?_
   refine pt_then (ht_ret ?_)
   refine pt_r_then ?_
   obtain rfl := zi h
   exact pt_ret hio rfl (.tmp _ _ (.tmp _ _ .nil)) rfl rfl
  ·have h := cond_f hb1 h
   refine ht_skip ?_
   refine pt_then (ht_seq ?_)
   obtain ⟨v3, hv3, h⟩ := zn h
   refine zg hn [_,_,_,(15,.ptr 2 0),(16,vi s.least),(17,.ptr 2 1),(18,vi s.singles),(19,vi v3),(4,vi v3)] [0,1,2] [0,1,8] [zq [1] 3 15,zq [3,1] 4 16,zq [1] 5 17,zq [5,1] 6 18,zq [4,6] 7 19,zq [7] 8 4] [(_,_),(_,_),(_,_)] rfl ⟨zp rfl (oF underlying119 rfl sz3),zp rfl (oL underlying3 rfl),zp rfl (oF underlying119 rfl sz3),zp rfl (oL underlying3 rfl),zp rfl (oB rfl (ibind (f := int .i64) (Option.some.inj hv3))),z2 rfl,zz⟩ ?_
   refine pt_then ?_
   refine zgg hn [_,_,_,(6,vi 1)] [0,1,2] [0,1,2,3] [zq [] 3 6] [(_,_),(_,_),(_,_),(_,_)] rfl ⟨z2 rfl,zz⟩ ?_
   refine ht_seq ?_
   refine ht_seq ?_
   obtain ⟨v4, hv4, h⟩ := zn h
   refine zg hn [_,_,_,_,(20,vi sym),(21,.ptr 2 1),(22,vi s.singles),(23,vi v4),(1,vi v4)] [0,1,2,3] [1,2,3,8] [zq [0] 4 20,zq [1] 5 21,zq [5,1] 6 22,zq [4,6] 7 23,⟨[7],[0],[8],[(.slot 1)]⟩] [(_,_),(_,_),(_,_),(_,_)] rfl ⟨z1 rfl,zp rfl (oF underlying119 rfl sz3),zp rfl (oL underlying3 rfl),zp rfl (oB rfl (ibind (f := int .i64) (Option.some.inj hv4))),zp rfl (LOp.drop [_] (op_assign _ _ _ _ rfl rfl)),zz⟩ ?_
   refine pt_then ?_
   refine ht_loopS h (fun ((s14,s15,s16) : Int × Int × Int) => [(2,.box 119 [vi s.least,vi s.singles,vi s.group]),(4,vi s14),(6,vi s15),(1,vi s16)]) (fun ((s18,s19,s20) : Int × Int × Int) => [(4,vi s18),(6,vi s19),(1,vi s20)]) ?_ ?_
   ·rintro ⟨s18, s19, s20⟩ h
    refine pt_then (ht_seq ?_)
    obtain ⟨v28, hv28, h⟩ := zn h
    obtain ⟨v29, hv29, h⟩ := zn h
    refine zg hn [_,_,_,(40,vi s18),(41,vi s20),(42,vi s19),(43,vi v28),(44,vi v29),(45,vi s19),(4,vi v29),(5,vi s19)] [0,1,2] [9,10] [zq [0] 3 40,zq [2] 4 41,zq [1] 5 42,zq [4,5] 6 43,zq [3,6] 7 44,zq [1] 8 45,⟨[7],[0],[9],[(.slot 4)]⟩,zq [8] 10 5] [(_,_),(_,_)] rfl ⟨z1 rfl,z1 rfl,z1 rfl,zp rfl (oB rfl (shl_ok hv28)),zp rfl (oB rfl (ibind (f := int .i64) (Option.some.inj hv29))),z1 rfl,zp rfl (LOp.drop [_] (op_assign _ _ _ _ rfl rfl)),z2 rfl,zz⟩ ?_
    refine pt_then (ht_ret ?_)
    obtain rfl := zi h
    exact pt_ret hio rfl (.tmp _ _ (.tmp _ _ .nil)) rfl rfl
   ·rintro u21 hl22 hr23 ⟨s14, s15, s16⟩ rr26 h ho24
    refine ht_seq ?_
    refine zgg hn [_,_,_,_,(24,vi s16),(25,.ptr 2 2),(26,vi s.group),(27,vb (decide (s.group ≤ s16)))] [0,1,2,3] [0,1,2,3,7] [zq [3] 4 24,zq [0] 5 25,zq [5,0] 6 26,zq [4,6] 7 27] [(_,_),(_,_),(_,_),(_,_),(_,_)] rfl ⟨z1 rfl,zp rfl (oF underlying119 rfl sz3),zp rfl (oL underlying3 rfl),z4 rfl rfl,zz⟩ ?_
    refine ht_cond _ rfl (fun hb27 => ?_) (fun hb27 => ?_)
    ·have h := cond_t hb27 h
     refine ht_skip ?_
     refine pt_then (ht_seq ?_)
     refine ht_block ?_
     refine ht_seq ?_
     obtain ⟨v6, hv6, h⟩ := zn h
     obtain ⟨v7, hv7, h⟩ := zn h
     refine zg hn [_,_,_,_,_,(32,vi s14),(33,.ptr 2 2),(34,vi s.group),(35,vi s15),(36,vi v6),(37,vi v7),(4,vi v7)] [0,1,2,3,4] [0,2,3,11] [zq [1] 5 32,zq [0] 6 33,zq [6,0] 7 34,zq [2] 8 35,zq [7,8] 9 36,zq [5,9] 10 37,⟨[10],[1],[11],[(.slot 4)]⟩] [(_,_),(_,_),(_,_),(_,_)] rfl ⟨z1 rfl,zp rfl (oF underlying119 rfl sz3),zp rfl (oL underlying3 rfl),z1 rfl,zp rfl (oB rfl (shl_ok hv6)),zp rfl (oB rfl (ibind (f := int .i64) (Option.some.inj hv7))),zp rfl (LOp.drop [_] (op_assign _ _ _ _ rfl rfl)),zz⟩ ?_
     refine pt_then ?_
     obtain ⟨v8, hv8, h⟩ := zn h
     refine zg hn [_,_,_,_,(38,vi s15),(39,vi v8),(6,vi v8)] [0,1,2,3] [0,2,3,6] [zq [1] 4 38,zq [4] 5 39,⟨[5],[1],[6],[(.slot 6)]⟩] [(_,_),(_,_),(_,_),(_,_)] rfl ⟨z1 rfl,zp rfl (oB rfl (ibind (f := int .i64) (Option.some.inj hv8))),zp rfl (LOp.drop [_] (op_assign _ _ _ _ rfl rfl)),zz⟩ ?_
     refine pt_inb ?_
     refine pt_then ?_
     obtain ⟨v9, hv9, h⟩ := zn h
     refine zg hn [_,_,_,_,(28,vi s16),(29,.ptr 2 2),(30,vi s.group),(31,vi v9),(1,vi v9)] [0,1,2,3] [0,2,3,8] [zq [1] 4 28,zq [0] 5 29,zq [5,0] 6 30,zq [4,6] 7 31,⟨[7],[1],[8],[(.slot 1)]⟩] [(_,_),(_,_),(_,_),(_,_)] rfl ⟨z1 rfl,zp rfl (oF underlying119 rfl sz3),zp rfl (oL underlying3 rfl),zp rfl (oB rfl (ibind (f := int .i64) (Option.some.inj hv9))),zp rfl (LOp.drop [_] (op_assign _ _ _ _ rfl rfl)),zz⟩ ?_
     exact pt_next _ (zi h).symm rfl
    ·have h := cond_f hb27 h
     refine ht_exit ?_
     refine pt_x_then ?_
     refine pt_x_then ?_
     refine pt_x_in ?_
     refine pt_pick [1,2,3] (by kernel_rfl) (es' := [(_,_),(_,_),(_,_)]) rfl ?_
     exact hl22 _ (ho24 _ (zi h).symm).symm
theorem ok_sym_scale_find (s : T_sym_scale) (n : Int) (r : (Int × Int × Int)) (h : Sh.sym_scale_find s n = some r) : FnOK Tryd.prog 101 [.agg [.v (.int .i64 s.least), .v (.int .i64 s.singles), .v (.int .i64 s.group)], .v (.int .i64 n)] (.tup [.v (.int .i64 r.1), .v (.int .i64 r.2.1), .v (.int .i64 r.2.2)]) := by
  unfold Sh.sym_scale_find at h
  refine fn_ok func101 rfl (zl rfl) rfl rfl fun g0 hn hio => ?_
  refine zgg hn [_,_,(2,.box 119 [vi s.least,vi s.singles,vi s.group]),(4,vi 0),(5,vi 0),(6,vi 0)] [0,1] [1,2,3] [zq [0] 2 2,zq [] 3 4,zq [] 4 5,zq [] 5 6] [(_,_),(_,_),(_,_)] rfl ⟨zp rfl (op_box _ _ _ _ rfl rfl rfl),z2 rfl,z2 rfl,z2 rfl,zz⟩ ?_
  refine ht_loopS h (fun (s9 : Int) => [(1,vi n),(2,.box 119 [vi s.least,vi s.singles,vi s.group]),(4,vi s9)]) (fun (() : Unit) => []) ?_ ?_
  ·rintro ⟨⟩ h
   cases h
  ·rintro u11 hl12 hr13 s9 rr16 h ho14
   refine ht_block ?_
   refine ht_seq ?_
   obtain ⟨v1, hv1, h⟩ := zn h
   refine zg hn [_,_,_,(10,.agg [vi s.least,vi s.singles,vi s.group]),(11,vi s9),(12,.tup [vi v1.1,vi v1.2]),(9,.tup [vi v1.1,vi v1.2]),(13,vi v1.1),(14,vi v1.2),(7,vi v1.1),(8,vi v1.2)] [0,1,2] [0,1,2,9,10] [zq [1] 3 10,zq [2] 4 11,zq [3,4] 5 12,⟨[],[5],[6],[(.slot 9)]⟩,zq [6] 7 13,zq [6] 8 14,zq [7] 9 7,zq [8] 10 8] [(_,_),(_,_),(_,_),(_,_),(_,_)] rfl ⟨zp rfl (op_loadA _ _ _ _ _ _ _ underlying119 rfl sz119 rfl rfl (zl rfl) rfl rfl),z1 rfl,zp rfl (op_call _ _ 115 _ _ rfl call115 rfl (ok_sym_scale_symbol s s9 _ hv1) rfl rfl),zp rfl (op_move_take _ _ _ _ rfl),zp rfl (oE rfl),zp rfl (oE rfl),z2 rfl,z2 rfl,zz⟩ ?_
   refine pt_then (ht_seq ?_)
   refine ht_seq ?_
   obtain ⟨v2, hv2, h⟩ := zn h
   obtain ⟨v3, hv3, h⟩ := zn h
   refine zg hn [_,_,_,_,_,(15,vi n),(16,vi v1.1),(17,vi v2),(18,vi v1.2),(19,vi v3),(20,vb (decide (v2 < v3)))] [0,1,2,3,4] [0,1,2,3,4,10] [zq [0] 5 15,zq [3] 6 16,zq [5,6] 7 17,zq [4] 8 18,zq [8] 9 19,zq [7,9] 10 20] [(_,_),(_,_),(_,_),(_,_),(_,_),(_,_)] rfl ⟨z1 rfl,z1 rfl,zp rfl (oB rfl (ibind (f := int .i64) (Option.some.inj hv2))),z1 rfl,zp rfl (oB rfl (shl_ok hv3)),z4 rfl rfl,zz⟩ ?_
   refine pt_then ?_
   refine ht_cond _ rfl (fun hb17 => ?_) (fun hb17 => ?_)
   ·have h := cond_t hb17 h
    refine ht_seq ?_
    obtain ⟨v5, hv5, h⟩ := zn h
    refine zg hn [_,_,_,_,_,_,(21,vi s9),(22,vi v1.2),(23,vi n),(24,vi v1.1),(25,vi v5),(4,vi s9),(5,vi v1.2),(6,vi v5)] [0,1,2,3,4,5] [11,12,13] [zq [2] 6 21,zq [4] 7 22,zq [0] 8 23,zq [3] 9 24,zq [8,9] 10 25,⟨[6],[2],[11],[(.slot 4)]⟩,zq [7] 12 5,zq [10] 13 6] [(_,_),(_,_),(_,_)] rfl ⟨z1 rfl,z1 rfl,z1 rfl,z1 rfl,zp rfl (oB rfl (ibind (f := int .i64) (Option.some.inj hv5))),zp rfl (LOp.drop [_] (op_assign _ _ _ _ rfl rfl)),z2 rfl,z2 rfl,zz⟩ ?_
    refine pt_then (ht_ret ?_)
    refine pt_r_then ?_
    refine pt_r_in ?_
    refine pt_r_then ?_
    refine pt_r_in ?_
    have h := hr13 _ (ho14 _ (zi h).symm).symm
    obtain rfl := zi h
    exact pt_ret hio rfl (.tmp _ _ (.tmp _ _ (.tmp _ _ .nil))) rfl rfl
   ·have h := cond_f hb17 h
    refine ht_skip ?_
    refine pt_then ?_
    obtain ⟨v6, hv6, h⟩ := zn h
    refine zg hn [_,_,_,_,_,_,(26,vi s9),(27,vi v6),(4,vi v6)] [0,1,2,3,4,5] [0,1,8] [zq [2] 6 26,zq [6] 7 27,⟨[7],[2],[8],[(.slot 4)]⟩] [(_,_),(_,_),(_,_)] rfl ⟨z1 rfl,zp rfl (oB rfl (ibind (f := int .i64) (Option.some.inj hv6))),zp rfl (LOp.drop [_] (op_assign _ _ _ _ rfl rfl)),zz⟩ ?_
    refine pt_inb ?_
    exact pt_next _ (zi h).symm rfl
theorem ok_sym_Len (n : Int) (r : (Int × Int × Int × Int)) (h : Sh.sym_Len n = some r) : FnOK Tryd.prog 83 [.v (.int .i64 n)] (.tup [.v (.int .i64 r.1), .v (.int .i64 r.2.1), .v (.int .i64 r.2.2.1), .v (.int .i64 r.2.2.2)]) := by
  unfold Sh.sym_Len at h
  refine fn_ok func83 rfl (zl rfl) rfl rfl fun g0 hn hio => ?_
  refine zgg hn [_,(2,vi 0),(3,vi 0),(4,vi 0),(5,vi 0)] [0] [0] [zq [] 1 2,zq [] 2 3,zq [] 3 4,zq [] 4 5] [(_,_)] rfl ⟨z2 rfl,z2 rfl,z2 rfl,z2 rfl,zz⟩ ?_
  refine ht_seq ?_
  refine ht_seq ?_
  refine ht_joinS h (fun (s1 : Bool) => [(0,vi n),(11,vb s1)]) ?_ ?_
  ·rintro s1 h
   refine pt_then ?_
   refine ht_cond _ rfl (fun hb5 => ?_) (fun hb5 => ?_)
   ·have h := cond_t hb5 h
    refine zgg hn [_,_,(2,vi 0),(3,vi 0),(4,vi 0),(5,vi 1)] [0,1] [2,3,4,5] [zq [] 2 2,zq [] 3 3,zq [] 4 4,zq [] 5 5] [(_,_),(_,_),(_,_),(_,_)] rfl ⟨z2 rfl,z2 rfl,z2 rfl,z2 rfl,zz⟩ ?_
    refine ht_ret ?_
    refine pt_r_then ?_
    obtain rfl := zi h
    exact pt_ret hio rfl (.tmp _ _ (.tmp _ _ (.tmp _ _ (.tmp _ _ .nil)))) rfl rfl
   ·have h := cond_f hb5 h
    refine ht_skip ?_
    refine pt_then (ht_seq ?_)
    refine zgg hn [_,_,(12,vi n),(13,vb (n == 258))] [0,1] [0,3] [zq [0] 2 12,zq [2] 3 13] [(_,_),(_,_)] rfl ⟨z1 rfl,z4 rfl rfl,zz⟩ ?_
    refine ht_cond _ rfl (fun hb6 => ?_) (fun hb6 => ?_)
    ·have h := cond_t hb6 h
     refine zgg hn [_,_,(2,vi 285),(3,vi 0),(4,vi 0),(5,vi 0)] [0,1] [2,3,4,5] [zq [] 2 2,zq [] 3 3,zq [] 4 4,zq [] 5 5] [(_,_),(_,_),(_,_),(_,_)] rfl ⟨z2 rfl,z2 rfl,z2 rfl,z2 rfl,zz⟩ ?_
     refine ht_ret ?_
     refine pt_r_then ?_
     obtain rfl := zi h
     exact pt_ret hio rfl (.tmp _ _ (.tmp _ _ (.tmp _ _ (.tmp _ _ .nil)))) rfl rfl
    ·have h := cond_f hb6 h
     refine ht_skip ?_
     refine pt_then (ht_seq ?_)
     obtain ⟨v7, hv7, h⟩ := zn h
     obtain ⟨v8, hv8, h⟩ := zn h
     refine zg hn [_,_,(15,.agg [vi v7.least,vi v7.singles,vi v7.group]),(16,vi n),(17,.tup [vi v8.1,vi v8.2.1,vi v8.2.2]),(14,.tup [vi v8.1,vi v8.2.1,vi v8.2.2]),(18,vi v8.1),(19,vi v8.2.1),(20,vi v8.2.2),(2,vi v8.1),(3,vi v8.2.1),(4,vi v8.2.2)] [0,1] [9,10,11] [zq [] 2 15,zq [0] 3 16,zq [2,3] 4 17,⟨[],[4],[5],[(.slot 14)]⟩,zq [5] 6 18,zq [5] 7 19,zq [5] 8 20,zq [6] 9 2,zq [7] 10 3,zq [8] 11 4] [(_,_),(_,_),(_,_)] rfl ⟨zp rfl (op_call _ _ 100 _ _ rfl call100 rfl (ok_sym_lens  _ hv7) rfl rfl),z1 rfl,zp rfl (op_call _ _ 101 _ _ rfl call101 rfl (ok_sym_scale_find v7 n _ hv8) rfl rfl),zp rfl (op_move_take _ _ _ _ rfl),zp rfl (oE rfl),zp rfl (oE rfl),zp rfl (oE rfl),z2 rfl,z2 rfl,z2 rfl,zz⟩ ?_
     refine pt_then (ht_seq ?_)
     obtain ⟨v9, hv9, h⟩ := zn h
     refine zg hn [_,_,_,(21,vi v8.1),(22,vi v9),(23,vi v8.2.1),(24,vi v8.2.2),(2,vi v9),(3,vi v8.2.1),(4,vi v8.2.2),(5,vi 0)] [0,1,2] [7,8,9,10] [zq [0] 3 21,zq [3] 4 22,zq [1] 5 23,zq [2] 6 24,⟨[4],[0],[7],[(.slot 2)]⟩,⟨[5],[1],[8],[(.slot 3)]⟩,⟨[6],[2],[9],[(.slot 4)]⟩,zq [] 10 5] [(_,_),(_,_),(_,_),(_,_)] rfl ⟨z1 rfl,zp rfl (oB rfl (ibind (f := int .i64) (Option.some.inj hv9))),z1 rfl,z1 rfl,zp rfl (LOp.drop [_] (op_assign _ _ _ _ rfl rfl)),zp rfl (LOp.drop [_] (op_assign _ _ _ _ rfl rfl)),zp rfl (LOp.drop [_] (op_assign _ _ _ _ rfl rfl)),z2 rfl,zz⟩ ?_
     refine pt_then (ht_ret ?_)
     obtain rfl := zi h
     exact pt_ret hio rfl (.tmp _ _ (.tmp _ _ (.tmp _ _ (.tmp _ _ .nil)))) rfl rfl
  ·intro u2 h hl3 hr4
   refine cond_some h (fun hg1_2 h => ?_) (fun hg1_2 h => ?_)
   ·refine zg hn [_,(6,vi n),(7,vb (decide (n < 3))),(8,vb true),(9,.v undef),(10,.v undef),(11,vb true)] [0] [0,6] [zq [0] 1 6,zq [1] 2 7,zq [2] 3 8,zq [3] 4 9,zq [3] 5 10,zq [3] 6 11] [(_,_),(_,_)] rfl ⟨z1 rfl,z4 rfl rfl,z8 hg1_2 rfl,zf rfl,zf rfl,z3 true rfl,zz⟩ ?_
    exact hl3 _ (zi h).symm
   ·refine zg hn [_,(6,vi n),(7,vb (decide (n < 3))),(8,vb false),(9,vi n),(10,vb (decide (258 < n))),(11,vb (decide (258 < n)))] [0] [0,6] [zq [0] 1 6,zq [1] 2 7,zq [2] 3 8,zq [3,0] 4 9,zq [3,4] 5 10,zq [3,5] 6 11] [(_,_),(_,_)] rfl ⟨z1 rfl,z4 rfl rfl,z8 hg1_2 rfl,zr' rfl (oM rfl),zr' rfl (oB rfl rfl),z3 false rfl,zz⟩ ?_
    exact hl3 _ (zi h).symm
theorem ok_sym_dists (r : T_sym_scale) (h : Sh.sym_dists  = some r) : FnOK Tryd.prog 102 [] (.agg [.v (.int .i64 r.least), .v (.int .i64 r.singles), .v (.int .i64 r.group)]) := by
  unfold Sh.sym_dists at h
  refine fn_ok func102 rfl (zl rfl) rfl rfl fun g0 hn hio => ?_
  refine zgg hn [(0,.box 119 [vi 0,vi 0,vi 0])] [] [0] [zq [] 0 0] [(_,_)] rfl ⟨zp rfl (op_alloc _ _ zr119),zz⟩ ?_
  refine zgg hn [_,(1,.agg [vi 1,vi 4,vi 2]),(0,.box 119 [vi 1,vi 4,vi 2])] [0] [2] [zq [] 1 1,⟨[1],[0],[2],[.cell 0 0,.cell 0 1,.cell 0 2]⟩] [(_,_)] rfl ⟨zp rfl (op_build _ _ _ _ [1, 1, 1] _ _ underlying119 zr119 (fs119 _ underlying119) (.copy _ (.copy _ (.copy _ Src.nil))) rfl rfl rfl),zp rfl (oS sz119 rfl),zz⟩ ?_
  refine ht_ret ?_
  obtain rfl := zi h
  exact pt_ret hio rfl (.cellA _ _ _ _ underlying119 rfl sz119 .nil) rfl rfl
theorem ok_sym_Dist (n : Int) (r : (Int × Int × Int × Int)) (h : Sh.sym_Dist n = some r) : FnOK Tryd.prog 84 [.v (.int .i64 n)] (.tup [.v (.int .i64 r.1), .v (.int .i64 r.2.1), .v (.int .i64 r.2.2.1), .v (.int .i64 r.2.2.2)]) := by
  unfold Sh.sym_Dist at h
  refine fn_ok func84 rfl (zl rfl) rfl rfl fun g0 hn hio => ?_
  refine zgg hn [_,(2,vi 0),(3,vi 0),(4,vi 0),(5,vi 0)] [0] [0] [zq [] 1 2,zq [] 2 3,zq [] 3 4,zq [] 4 5] [(_,_)] rfl ⟨z2 rfl,z2 rfl,z2 rfl,z2 rfl,zz⟩ ?_
  refine ht_seq ?_
  refine ht_seq ?_
  refine ht_joinS h (fun (s1 : Bool) => [(0,vi n),(11,vb s1)]) ?_ ?_
  ·rintro s1 h
   refine pt_then ?_
   refine ht_cond _ rfl (fun hb5 => ?_) (fun hb5 => ?_)
   ·have h := cond_t hb5 h
    refine zgg hn [_,_,(2,vi 0),(3,vi 0),(4,vi 0),(5,vi 1)] [0,1] [2,3,4,5] [zq [] 2 2,zq [] 3 3,zq [] 4 4,zq [] 5 5] [(_,_),(_,_),(_,_),(_,_)] rfl ⟨z2 rfl,z2 rfl,z2 rfl,z2 rfl,zz⟩ ?_
    refine ht_ret ?_
    refine pt_r_then ?_
    obtain rfl := zi h
    exact pt_ret hio rfl (.tmp _ _ (.tmp _ _ (.tmp _ _ (.tmp _ _ .nil)))) rfl rfl
   ·have h := cond_f hb5 h
    refine ht_skip ?_
    refine pt_then (ht_seq ?_)
    obtain ⟨v6, hv6, h⟩ := zn h
    obtain ⟨v7, hv7, h⟩ := zn h
    refine zg hn [_,_,(13,.agg [vi v6.least,vi v6.singles,vi v6.group]),(14,vi n),(15,.tup [vi v7.1,vi v7.2.1,vi v7.2.2]),(12,.tup [vi v7.1,vi v7.2.1,vi v7.2.2]),(16,vi v7.1),(17,vi v7.2.1),(18,vi v7.2.2),(2,vi v7.1),(3,vi v7.2.1),(4,vi v7.2.2)] [0,1] [9,10,11] [zq [] 2 13,zq [0] 3 14,zq [2,3] 4 15,⟨[],[4],[5],[(.slot 12)]⟩,zq [5] 6 16,zq [5] 7 17,zq [5] 8 18,zq [6] 9 2,zq [7] 10 3,zq [8] 11 4] [(_,_),(_,_),(_,_)] rfl ⟨zp rfl (op_call _ _ 102 _ _ rfl call102 rfl (ok_sym_dists  _ hv6) rfl rfl),z1 rfl,zp rfl (op_call _ _ 101 _ _ rfl call101 rfl (ok_sym_scale_find v6 n _ hv7) rfl rfl),zp rfl (op_move_take _ _ _ _ rfl),zp rfl (oE rfl),zp rfl (oE rfl),zp rfl (oE rfl),z2 rfl,z2 rfl,z2 rfl,zz⟩ ?_
    refine pt_then ?_
    refine zgg hn [_,_,_,(19,vi v7.1),(20,vi v7.2.1),(21,vi v7.2.2),(2,vi v7.1),(3,vi v7.2.1),(4,vi v7.2.2),(5,vi 0)] [0,1,2] [6,7,8,9] [zq [0] 3 19,zq [1] 4 20,zq [2] 5 21,⟨[3],[0],[6],[(.slot 2)]⟩,⟨[4],[1],[7],[(.slot 3)]⟩,⟨[5],[2],[8],[(.slot 4)]⟩,zq [] 9 5] [(_,_),(_,_),(_,_),(_,_)] rfl ⟨z1 rfl,z1 rfl,z1 rfl,zp rfl (LOp.drop [_] (op_assign _ _ _ _ rfl rfl)),zp rfl (LOp.drop [_] (op_assign _ _ _ _ rfl rfl)),zp rfl (LOp.drop [_] (op_assign _ _ _ _ rfl rfl)),z2 rfl,zz⟩ ?_
    refine ht_ret ?_
    obtain rfl := zi h
    exact pt_ret hio rfl (.tmp _ _ (.tmp _ _ (.tmp _ _ (.tmp _ _ .nil)))) rfl rfl
  ·intro u2 h hl3 hr4
   refine cond_some h (fun hg1_2 h => ?_) (fun hg1_2 h => ?_)
   ·refine zg hn [_,(6,vi n),(7,vb (decide (n < 1))),(8,vb true),(9,.v undef),(10,.v undef),(11,vb true)] [0] [0,6] [zq [0] 1 6,zq [1] 2 7,zq [2] 3 8,zq [3] 4 9,zq [3] 5 10,zq [3] 6 11] [(_,_),(_,_)] rfl ⟨z1 rfl,z4 rfl rfl,z8 hg1_2 rfl,zf rfl,zf rfl,z3 true rfl,zz⟩ ?_
    exact hl3 _ (zi h).symm
   ·refine zg hn [_,(6,vi n),(7,vb (decide (n < 1))),(8,vb false),(9,vi n),(10,vb (decide (32768 < n))),(11,vb (decide (32768 < n)))] [0] [0,6] [zq [0] 1 6,zq [1] 2 7,zq [2] 3 8,zq [3,0] 4 9,zq [3,4] 5 10,zq [3,5] 6 11] [(_,_),(_,_)] rfl ⟨z1 rfl,z4 rfl rfl,z8 hg1_2 rfl,zr' rfl (oM rfl),zr' rfl (oB rfl rfl),z3 false rfl,zz⟩ ?_
    exact hl3 _ (zi h).symm
theorem ok_shrink_writer_putTokens (w : T_shrink_writer) (l : (List T_Tok)) (lits : T_shrink_code) (dists : T_shrink_code) (r : T_shrink_writer) (h : Sh.shrink_writer_putTokens w l lits dists = some r) : FnP Tryd.prog 60 [.box 57 [.fl (.own 5) 1 (map (int .u8) w.b), .v (.int .i64 w.n)], .fl .shr 3 (flatten (map T_Tok.enc l)), .agg [.fl .shr 1 (map (int .i64) lits.lengths), .fl .shr 1 (map (int .i64) lits.codes)], .agg [.fl .shr 1 (map (int .i64) dists.lengths), .fl .shr 1 (map (int .i64) dists.codes)]] [.box 57 [.fl (.own 5) 1 (map (int .u8) r.b), .v (.int .i64 r.n)]] (.tup []) := by
  unfold Sh.shrink_writer_putTokens at h
  refine fn_okP func60 rfl (zl rfl) rfl (zl rfl) fun args0 hargs0 g0 hn hio => ?_
  refine zgg hn [_,_,_,_,_,(6,.box 87 [fi lits.lengths,fi lits.codes]),(7,.box 87 [fi dists.lengths,fi dists.codes])] [0,1,2,3,4] [0,1,4,5,6] [zq [2] 5 6,zq [3] 6 7] [(_,_),(_,_),(_,_),(_,_),(_,_)] rfl ⟨zp rfl (op_box _ _ _ _ rfl rfl rfl),zp rfl (op_box _ _ _ _ rfl rfl rfl),zz⟩ ?_
  refine ht_seq ?_
  refine zgg hn [_,_,_,_,_,(14,.fl .shr 3 (flatten (map T_Tok.enc l))),(15,vi (l.length : Int)),(16,vi 0)] [0,1,2,3,4] [0,2,3,4,5,6,7] [zq [1] 5 14,zq [5] 6 15,zq [] 7 16] [(_,_),(_,_),(_,_),(_,_),(_,_),(_,_),(_,_)] rfl ⟨z1 rfl,zp rfl (op_len_fl _ _ _ underlying45 rfl (by decide) (flat_len T_Tok.len _)),z1 rfl,zz⟩ ?_
  refine ht_loopS h (fun ((s31,s32,s33) : (List Int) × Int × Int) => [(0,.box 57 [.fl (.own 5) 1 (map (int .u8) s31),vi s32]),(0,.v (List.getD args0 0 undef)),(6,.box 87 [fi lits.lengths,fi lits.codes]),(7,.box 87 [fi dists.lengths,fi dists.codes]),(14,.fl .shr 3 (flatten (map T_Tok.enc l))),(15,vi (l.length : Int)),(16,vi s33)]) (fun ((s42,s43) : (List Int) × Int) => [(0,.box 57 [.fl (.own 5) 1 (map (int .u8) s42),vi s43]),(0,.v (List.getD args0 0 undef)),(6,.box 87 [fi lits.lengths,fi lits.codes])]) ?_ ?_
  ·rintro ⟨s42, s43⟩ h
   refine pt_then ?_
   obtain ⟨v58, hv58, h⟩ := zn h
   refine zg hn [_,_,_,(62,.ptr 0 0),(63,.agg [fi lits.lengths,fi lits.codes]),(64,.tup []),(0,.box 57 [.fl (.own 5) 1 (map (int .u8) v58.b),vi v58.n])] [0,1,2] [6,1] [zq [0] 3 62,zq [2] 4 63,⟨[3,4],[0],[6,5],[(.slot 64),(.cell 0 0),(.cell 0 1)]⟩] [(_,_),(_,_)] rfl ⟨z1 rfl,zp rfl (op_loadA _ _ _ _ _ _ _ underlying87 rfl sz87 rfl rfl (zl rfl) rfl rfl),zp rfl (op_callP _ _ _ _ 64 82 [.tmp 62] [.tmp 63, _] _ _ _ rfl call82 rfl rfl rfl (ok_shrink_writer_putSym (T_shrink_writer.mk s42 s43) lits 256 _ hv58) (zl rfl) rfl rfl rfl rfl rfl rfl rfl rfl),zz⟩ ?_
   obtain rfl := zi h
   exact pt_endP (es := []) (posts := [.box 57 [.fl (.own 5) 1 (map (int .u8) v58.b), .v (.int .i64 v58.n)]]) hio rfl rfl .nil rfl rfl hargs0 rfl
  ·rintro u44 hl45 hr46 ⟨s31, s32, s33⟩ rr49 h ho47
   refine zgg hn [_,_,_,_,_,_,_,(17,vb (decide (s33 < (l.length : Int))))] [0,1,2,3,4,5,6] [0,1,2,3,4,5,6,7] [zq [6,5] 7 17] [(_,_),(_,_),(_,_),(_,_),(_,_),(_,_),(_,_),(_,_)] rfl ⟨z4 rfl rfl,zz⟩ ?_
   refine ht_seq ?_
   refine ht_cond _ rfl (fun hb50 => ?_) (fun hb50 => ?_)
   ·have h := cond_t hb50 h
    refine ht_skip ?_
    refine pt_then (ht_seq ?_)
    refine ht_joinS h (fun ((s52,s53) : (List Int) × Int) => [(0,.box 57 [.fl (.own 5) 1 (map (int .u8) s52),vi s53]),(0,.v (List.getD args0 0 undef)),(6,.box 87 [fi lits.lengths,fi lits.codes]),(7,.box 87 [fi dists.lengths,fi dists.codes]),(14,.fl .shr 3 (flatten (map T_Tok.enc l))),(15,vi (l.length : Int)),(16,vi s33)]) ?_ ?_
    ·rintro ⟨s52, s53⟩ h
     refine pt_then ?_
     obtain ⟨v19, hv19, h⟩ := zn h
     refine zg hn [_,_,_,_,_,_,_,(61,vi v19),(16,vi v19)] [0,1,2,3,4,5,6] [0,1,2,3,4,5,8] [zq [6] 7 61,⟨[7],[6],[8],[(.slot 16)]⟩] [(_,_),(_,_),(_,_),(_,_),(_,_),(_,_),(_,_)] rfl ⟨zp rfl (oB rfl (ibind (f := int .i64) (Option.some.inj hv19))),zp rfl (LOp.drop [_] (oM rfl)),zz⟩ ?_
     exact pt_next _ (zi h).symm rfl
    ·intro u54 h hl55 hr56
     refine ht_block ?_
     refine ht_seq ?_
     obtain ⟨v2, hv2, h⟩ := zn h
     obtain ⟨v3, hv3, h⟩ := zn h
     refine zg hn [_,_,_,_,_,_,_,_,(18,.eref (.slot 14) (v2 * 3)),(19,.agg [.v (.int .u8 v3.Byte),vi v3.Len,vi v3.Dist]),(9,.box 53 [.v (.int .u8 0),vi 0,vi 0]),(9,.box 53 [.v (.int .u8 v3.Byte),vi v3.Len,vi v3.Dist])] [0,1,2,3,4,5,6,7] [0,1,2,3,4,5,6,11] [zq [4,6] 8 18,zq [8,4] 9 19,zq [] 10 9,⟨[9],[10],[11],[.cell 9 0,.cell 9 1,.cell 9 2]⟩] [(_,_),(_,_),(_,_),(_,_),(_,_),(_,_),(_,_),(_,_)] rfl ⟨zp rfl (op_ix _ _ _ _ _ _ _ _ underlying45 sz53 (by decide) rfl rfl rfl (ix_ok hv2).1 (flat_lt T_Tok.len (ix_ok hv2).2) rfl),zp rfl (op_load_eA _ _ _ _ _ _ _ underlying53 rfl sz53 rfl rfl (flat_get T_Tok.len hv3) rfl (by decide)),zp rfl (op_alloc _ _ zr53),zp rfl (oS sz53 rfl),zz⟩ ?_
     refine pt_then (ht_seq ?_)
     refine zgg hn [_,_,_,_,_,_,_,_,(20,.ptr 9 1),(21,vi v3.Len),(22,vb (v3.Len == 0))] [0,1,2,3,4,5,6,7] [0,1,2,3,4,5,6,7,10] [zq [7] 8 20,zq [8,7] 9 21,zq [9] 10 22] [(_,_),(_,_),(_,_),(_,_),(_,_),(_,_),(_,_),(_,_),(_,_)] rfl ⟨zp rfl (oF underlying53 rfl sz3),zp rfl (oL underlying3 rfl),z4 rfl rfl,zz⟩ ?_
     refine ht_cond _ rfl (fun hb57 => ?_) (fun hb57 => ?_)
     ·have h := cond_t hb57 h
      refine ht_seq ?_
      obtain ⟨v5, hv5, h⟩ := zn h
      obtain ⟨v6, hv6, h⟩ := zn h
      refine zg hn (_::_::_::_::_::_::_::_::_::(23,.ptr 0 0)::(24,.agg [fi lits.lengths,fi lits.codes])::(25,.ptr 9 0)::(26,.v (.int .u8 v3.Byte))::(27,vi v5)::(28,.tup [])::(0,.box 57 [.fl (.own 5) 1 (map (int .u8) v6.b),vi v6.n])::[]) [0,1,2,3,4,5,6,7,8] [15,1,2,3,4,5,6] [zq [0] 9 23,zq [2] 10 24,zq [7] 11 25,zq [11,7] 12 26,zq [12] 13 27,⟨[9,10,13],[0],[15,14],[(.slot 28),(.cell 0 0),(.cell 0 1)]⟩] [(_,_),(_,_),(_,_),(_,_),(_,_),(_,_),(_,_)] rfl ⟨z1 rfl,zp rfl (op_loadA _ _ _ _ _ _ _ underlying87 rfl sz87 rfl rfl (zl rfl) rfl rfl),zp rfl (oF underlying53 rfl sz5),zp rfl (oL underlying5 rfl),zp rfl ((Option.some.inj hv5) ▸ op_conv _ _ _ underlying5 underlying3 rfl),zp rfl (op_callP _ _ _ _ 28 82 [.tmp 23] [.tmp 24, .tmp 27] _ _ _ rfl call82 rfl rfl rfl (ok_shrink_writer_putSym (T_shrink_writer.mk s31 s32) lits v5 _ hv6) (zl rfl) rfl rfl rfl rfl rfl rfl rfl rfl),zz⟩ ?_
      refine pt_then ?_
      refine ht_exit ?_
      refine pt_x_then ?_
      refine pt_x_in ?_
      exact hl55 _ (zi h).symm
     ·have h := cond_f hb57 h
      refine ht_skip ?_
      refine pt_then (ht_seq ?_)
      obtain ⟨v7, hv7, h⟩ := zn h
      refine zg hn (_::_::_::_::_::_::_::_::_::(30,.ptr 9 1)::(31,vi v3.Len)::(32,.tup [vi v7.1,vi v7.2.1,vi v7.2.2.1,vi v7.2.2.2])::(29,.tup [vi v7.1,vi v7.2.1,vi v7.2.2.1,vi v7.2.2.2])::(33,vi v7.1)::(34,vi v7.2.1)::(35,vi v7.2.2.1)::(36,vi v7.2.2.2)::(10,vi v7.1)::(11,vi v7.2.1)::(12,vi v7.2.2.1)::(13,vi v7.2.2.2)::[]) [0,1,2,3,4,5,6,7,8] [0,1,2,3,4,5,6,7,17,18,19] [zq [7] 9 30,zq [9,7] 10 31,zq [10] 11 32,⟨[],[11],[12],[(.slot 29)]⟩,zq [12] 13 33,zq [12] 14 34,zq [12] 15 35,zq [12] 16 36,zq [13] 17 10,zq [14] 18 11,zq [15] 19 12,zq [16] 20 13] [(_,_),(_,_),(_,_),(_,_),(_,_),(_,_),(_,_),(_,_),(_,_),(_,_),(_,_)] rfl ⟨zp rfl (oF underlying53 rfl sz3),zp rfl (oL underlying3 rfl),zp rfl (op_call _ _ 83 _ _ rfl call83 rfl (ok_sym_Len v3.Len _ hv7) rfl rfl),zp rfl (op_move_take _ _ _ _ rfl),zp rfl (oE rfl),zp rfl (oE rfl),zp rfl (oE rfl),zp rfl (oE rfl),z2 rfl,z2 rfl,z2 rfl,z2 rfl,zz⟩ ?_
      refine pt_then (ht_seq ?_)
      obtain ⟨v8, hv8, h⟩ := zn h
      refine zg hn (_::_::_::_::_::_::_::_::_::_::_::(37,.ptr 0 0)::(38,.agg [fi lits.lengths,fi lits.codes])::(39,vi v7.1)::(40,.tup [])::(0,.box 57 [.fl (.own 5) 1 (map (int .u8) v8.b),vi v8.n])::[]) [0,1,2,3,4,5,6,7,8,9,10] [15,1,2,3,4,5,6,7,9,10] [zq [0] 11 37,zq [2] 12 38,zq [8] 13 39,⟨[11,12,13],[0],[15,14],[(.slot 40),(.cell 0 0),(.cell 0 1)]⟩] [(_,_),(_,_),(_,_),(_,_),(_,_),(_,_),(_,_),(_,_),(_,_),(_,_)] rfl ⟨z1 rfl,zp rfl (op_loadA _ _ _ _ _ _ _ underlying87 rfl sz87 rfl rfl (zl rfl) rfl rfl),z1 rfl,zp rfl (op_callP _ _ _ _ 40 82 [.tmp 37] [.tmp 38, .tmp 39] _ _ _ rfl call82 rfl rfl rfl (ok_shrink_writer_putSym (T_shrink_writer.mk s31 s32) lits v7.1 _ hv8) (zl rfl) rfl rfl rfl rfl rfl rfl rfl rfl),zz⟩ ?_
      refine pt_then (ht_seq ?_)
      obtain ⟨v9, hv9, h⟩ := zn h
      refine zg hn (_::_::_::_::_::_::_::_::_::_::(41,.ptr 0 0)::(42,vi v7.2.2.1)::(43,vi v7.2.1)::(44,.tup [])::(0,.box 57 [.fl (.own 5) 1 (map (int .u8) v9.b),vi v9.n])::[]) [0,1,2,3,4,5,6,7,8,9] [14,1,2,3,4,5,6,7] [zq [0] 10 41,zq [9] 11 42,zq [8] 12 43,⟨[10,11,12],[0],[14,13],[(.slot 44),(.cell 0 0),(.cell 0 1)]⟩] [(_,_),(_,_),(_,_),(_,_),(_,_),(_,_),(_,_),(_,_)] rfl ⟨z1 rfl,z1 rfl,z1 rfl,zp rfl (op_callP _ _ _ _ 44 55 [.tmp 41] [.tmp 42, .tmp 43] _ _ _ rfl call55 rfl rfl rfl (ok_shrink_writer_put v8 v7.2.2.1 v7.2.1 _ hv9) (zl rfl) rfl rfl rfl rfl rfl rfl rfl rfl),zz⟩ ?_
      refine pt_then (ht_seq ?_)
      obtain ⟨v10, hv10, h⟩ := zn h
      refine zg hn (_::_::_::_::_::_::_::_::(46,.ptr 9 2)::(47,vi v3.Dist)::(48,.tup [vi v10.1,vi v10.2.1,vi v10.2.2.1,vi v10.2.2.2])::(45,.tup [vi v10.1,vi v10.2.1,vi v10.2.2.1,vi v10.2.2.2])::(49,vi v10.1)::(50,vi v10.2.1)::(51,vi v10.2.2.1)::(52,vi v10.2.2.2)::(10,vi v10.1)::(11,vi v10.2.1)::(12,vi v10.2.2.1)::[]) [0,1,2,3,4,5,6,7] [0,1,2,3,4,5,6,16,17,18] [zq [7] 8 46,zq [8,7] 9 47,zq [9] 10 48,⟨[],[10],[11],[(.slot 45)]⟩,zq [11] 12 49,zq [11] 13 50,zq [11] 14 51,zq [11] 15 52,zq [12] 16 10,zq [13] 17 11,zq [14] 18 12] [(_,_),(_,_),(_,_),(_,_),(_,_),(_,_),(_,_),(_,_),(_,_),(_,_)] rfl ⟨zp rfl (oF underlying53 rfl sz3),zp rfl (oL underlying3 rfl),zp rfl (op_call _ _ 84 _ _ rfl call84 rfl (ok_sym_Dist v3.Dist _ hv10) rfl rfl),zp rfl (op_move_take _ _ _ _ rfl),zp rfl (oE rfl),zp rfl (oE rfl),zp rfl (oE rfl),zp rfl (oE rfl),z2 rfl,z2 rfl,z2 rfl,zz⟩ ?_
      refine pt_then (ht_seq ?_)
      obtain ⟨v11, hv11, h⟩ := zn h
      refine zg hn (_::_::_::_::_::_::_::_::_::_::(53,.ptr 0 0)::(54,.agg [fi dists.lengths,fi dists.codes])::(55,vi v10.1)::(56,.tup [])::(0,.box 57 [.fl (.own 5) 1 (map (int .u8) v11.b),vi v11.n])::[]) [0,1,2,3,4,5,6,7,8,9] [14,1,2,3,4,5,6,8,9] [zq [0] 10 53,zq [3] 11 54,zq [7] 12 55,⟨[10,11,12],[0],[14,13],[(.slot 56),(.cell 0 0),(.cell 0 1)]⟩] [(_,_),(_,_),(_,_),(_,_),(_,_),(_,_),(_,_),(_,_),(_,_)] rfl ⟨z1 rfl,zp rfl (op_loadA _ _ _ _ _ _ _ underlying87 rfl sz87 rfl rfl (zl rfl) rfl rfl),z1 rfl,zp rfl (op_callP _ _ _ _ 56 82 [.tmp 53] [.tmp 54, .tmp 55] _ _ _ rfl call82 rfl rfl rfl (ok_shrink_writer_putSym v9 dists v10.1 _ hv11) (zl rfl) rfl rfl rfl rfl rfl rfl rfl rfl),zz⟩ ?_
      refine pt_then ?_
      obtain ⟨v12, hv12, h⟩ := zn h
      refine zg hn [_,_,_,_,_,_,_,_,_,(57,.ptr 0 0),(58,vi v10.2.2.1),(59,vi v10.2.1),(60,.tup []),(0,.box 57 [.fl (.own 5) 1 (map (int .u8) v12.b),vi v12.n])] [0,1,2,3,4,5,6,7,8] [13,1,2,3,4,5,6] [zq [0] 9 57,zq [8] 10 58,zq [7] 11 59,⟨[9,10,11],[0],[13,12],[(.slot 60),(.cell 0 0),(.cell 0 1)]⟩] [(_,_),(_,_),(_,_),(_,_),(_,_),(_,_),(_,_)] rfl ⟨z1 rfl,z1 rfl,z1 rfl,zp rfl (op_callP _ _ _ _ 60 55 [.tmp 57] [.tmp 58, .tmp 59] _ _ _ rfl call55 rfl rfl rfl (ok_shrink_writer_put v11 v10.2.2.1 v10.2.1 _ hv12) (zl rfl) rfl rfl rfl rfl rfl rfl rfl rfl),zz⟩ ?_
      refine pt_inb ?_
      exact hl55 _ (zi h).symm
   ·have h := cond_f hb50 h
    refine ht_exit ?_
    refine pt_x_then ?_
    refine pt_x_then ?_
    refine pt_x_in ?_
    refine pt_pick [0,1,2] (by kernel_rfl) (es' := [(_,_),(_,_),(_,_)]) rfl ?_
    exact hl45 _ (ho47 _ (zi h).symm).symm
theorem ok_shrink_fixedBlock (l : (List T_Tok)) (r : (Option T_shrink_writer)) (h : Sh.shrink_fixedBlock l = some r) : FnOK Tryd.prog 35 [.fl .shr 3 (flatten (map T_Tok.enc l))] (.obox (Option.isSome r) 57 [.fl (.own 5) 1 (map (int .u8) (((Option.getD r (default : T_shrink_writer))).b)), .v (.int .i64 (((Option.getD r (default : T_shrink_writer))).n))]) := by
  unfold Sh.shrink_fixedBlock at h
  refine fn_ok func35 rfl (zl rfl) rfl rfl fun g0 hn hio => ?_
  refine zgg hn [_,(2,.v (.pointer none))] [0] [0] [zq [] 1 2] [(_,_)] rfl ⟨z2 rfl,zz⟩ ?_
  refine ht_seq ?_
  obtain ⟨v1, hv1, h⟩ := zn h
  refine zg hn [_,(6,.obox (Option.isSome v1) 57 [.fl (.own 5) 1 (map (int .u8) (((Option.getD v1 (default : T_shrink_writer))).b)),vi (((Option.getD v1 (default : T_shrink_writer))).n)]),(3,.obox (Option.isSome v1) 57 [.fl (.own 5) 1 (map (int .u8) (((Option.getD v1 (default : T_shrink_writer))).b)),vi (((Option.getD v1 (default : T_shrink_writer))).n)])] [0] [0,2] [zq [] 1 6,⟨[],[1],[2],[(.slot 3)]⟩] [(_,_),(_,_)] rfl ⟨zp rfl (op_call _ _ 54 _ _ rfl call54 rfl (ok_shrink_newBlock 1 _ hv1) rfl rfl),zp rfl (op_assign_take _ _ _ _ rfl),zz⟩ ?_
  refine pt_ob (d := default) (f := fun (v2 : T_shrink_writer) => [.fl (.own 5) 1 (map (int .u8) v2.b), .v (.int .i64 v2.n)]) 1 2 3 57 h (es1 := fun v2 => [(0, .fl .shr 3 (flatten (map T_Tok.enc l))), (3, .box 57 [.fl (.own 5) 1 (map (int .u8) v2.b), .v (.int .i64 v2.n)])]) (es0 := [(0, .fl .shr 3 (flatten (map T_Tok.enc l))), (3, .v (.pointer none))]) rfl (fun _ => rfl) (by kernel_rfl) (fun _ => rfl) (fun _ => rfl) rfl (fun v2 hv3 h => ?_) (fun hv3 h => ?_)
  ·refine pt_then (ht_seq ?_)
   obtain ⟨v4, hv4, h⟩ := zn h
   refine zg hn [_,_,(8,.tup [.fl (.own 3) 1 (map (int .i64) v4.1),.fl (.own 3) 1 (map (int .i64) v4.2)]),(7,.tup [.fl (.own 3) 1 (map (int .i64) v4.1),.fl (.own 3) 1 (map (int .i64) v4.2)]),(9,.fl (.own 3) 1 (map (int .i64) v4.1)),(7,.tup [.any,.fl (.own 3) 1 (map (int .i64) v4.2)]),(10,.fl (.own 3) 1 (map (int .i64) v4.2)),(7,.tup [.any,.any]),(4,.fl (.own 3) 1 (map (int .i64) v4.1)),(5,.fl (.own 3) 1 (map (int .i64) v4.2))] [0,1] [0,1,8,9] [zq [] 2 8,⟨[],[2],[3],[(.slot 7)]⟩,⟨[],[3],[5,4],[(.slot 9)]⟩,⟨[],[5],[7,6],[(.slot 10)]⟩,⟨[],[4],[8],[(.slot 4)]⟩,⟨[],[6],[9],[(.slot 5)]⟩] [(_,_),(_,_),(_,_),(_,_)] rfl ⟨zp rfl (op_call _ _ 59 _ _ rfl call59 rfl (ok_sym_Fixed  _ hv4) rfl rfl),zp rfl (op_move_take _ _ _ _ rfl),zp rfl (op_extract_take _ _ _ _ _ rfl (zl rfl) rfl rfl (by decide) rfl),zp rfl (op_extract_take _ _ _ _ _ rfl (zl rfl) rfl rfl (by decide) rfl),zp rfl (op_assign_take _ _ _ _ rfl),zp rfl (op_assign_take _ _ _ _ rfl),zz⟩ ?_
   refine pt_then (ht_seq ?_)
   refine ht_frz 2 hio (es' := [(0, .fl .shr 3 (flatten (map T_Tok.enc l))), (3, .box 57 [.fl (.own 5) 1 (map (int .u8) v2.b), .v (.int .i64 v2.n)]), (4, .fl .ro 1 (map (int .i64) v4.1)), (5, .fl (.own 3) 1 (map (int .i64) v4.2))]) rfl ?_
   refine ht_frz 3 hio (es' := [(0, .fl .shr 3 (flatten (map T_Tok.enc l))), (3, .box 57 [.fl (.own 5) 1 (map (int .u8) v2.b), .v (.int .i64 v2.n)]), (4, .fl .ro 1 (map (int .i64) v4.1)), (5, .fl .ro 1 (map (int .i64) v4.2))]) rfl ?_
   obtain ⟨v5, hv5, h⟩ := zn h
   obtain ⟨v6, hv6, h⟩ := zn h
   obtain ⟨v7, hv7, h⟩ := zn h
   refine zg hn [_,_,_,_,(11,.ptr 3 0),(12,.fl .shr 3 (flatten (map T_Tok.enc l))),(13,.fl .ro 1 (map (int .i64) v4.1)),(14,.agg [.fl .ro 1 (map (int .i64) v5.lengths),.fl .ro 1 (map (int .i64) v5.codes)]),(15,.fl .ro 1 (map (int .i64) v4.2)),(16,.agg [.fl .ro 1 (map (int .i64) v6.lengths),.fl .ro 1 (map (int .i64) v6.codes)]),(17,.tup []),(3,.box 57 [.fl (.own 5) 1 (map (int .u8) v7.b),vi v7.n])] [0,1,2,3] [11] [zq [1] 4 11,zq [0] 5 12,zq [2] 6 13,zq [6] 7 14,zq [3] 8 15,zq [8] 9 16,⟨[4,5,7,9],[1],[11,10],[(.slot 17),(.cell 3 0),(.cell 3 1)]⟩] [(_,_)] rfl ⟨z1 rfl,z1 rfl,z1 rfl,zp rfl (op_callR _ _ 61 _ _ rfl call61 rfl (ok_shrink_newCode_ro v4.1 _ hv5) rfl rfl),z1 rfl,zp rfl (op_callR _ _ 61 _ _ rfl call61 rfl (ok_shrink_newCode_ro v4.2 _ hv6) rfl rfl),zp rfl (op_callP _ _ _ _ 17 60 [.tmp 11] [.tmp 12, .tmp 14, .tmp 16] _ _ _ rfl call60 rfl rfl rfl (ok_shrink_writer_putTokens (T_shrink_writer.mk v2.b v2.n) l v5 v6 _ hv7) (zl rfl) rfl rfl rfl rfl rfl rfl rfl rfl),zz⟩ ?_
   refine pt_then ?_
   refine zgg hn [_,(18,.box 57 [.fl (.own 5) 1 (map (int .u8) v7.b),vi v7.n]),(2,.box 57 [.fl (.own 5) 1 (map (int .u8) v7.b),vi v7.n])] [0] [2] [⟨[],[0],[1],[(.slot 18)]⟩,⟨[],[1],[2],[(.slot 2)]⟩] [(_,_)] rfl ⟨zp rfl (op_move_take _ _ _ _ rfl),zp rfl (op_assign_take _ _ _ _ rfl),zz⟩ ?_
   refine ht_ret ?_
   refine pt_sub (fs := [(2,.obox true 57 [.fl (.own 5) 1 (map (int .u8) v7.b),vi v7.n])]) (.sub _ (sub_ob_box 57 (subs_refl _)) rfl .nil) ?_
   obtain rfl := zi h
   exact pt_ret hio rfl (.tmp _ _ .nil) rfl rfl
  ·cases h
theorem ok_shrink_Fixed (b : (List Int)) (r : ((List Int) × Int)) (h : Sh.shrink_Fixed b = some r) : FnOK Tryd.prog 14 [.fl .shr 1 (map (int .u8) b)] (.tup [.fl (.own 5) 1 (map (int .u8) r.1), .v (.int .i64 r.2)]) := by
  unfold Sh.shrink_Fixed at h
  refine fn_ok func14 rfl (zl rfl) rfl rfl fun g0 hn hio => ?_
  refine zgg hn [_,(2,vz),(3,vi 0)] [0] [0] [zq [] 1 2,zq [] 2 3] [(_,_)] rfl ⟨z2 rfl,z2 rfl,zz⟩ ?_
  refine ht_seq ?_
  obtain ⟨v1, hv1, h⟩ := zn h
  refine zg hn [_,(7,fb b),(8,.tup [.fl (.own 53) 3 (flatten (map T_Tok.enc v1.1)),vi v1.2]),(6,.tup [.fl (.own 53) 3 (flatten (map T_Tok.enc v1.1)),vi v1.2]),(9,.fl (.own 53) 3 (flatten (map T_Tok.enc v1.1))),(6,.tup [.any,vi v1.2]),(10,vi v1.2),(4,.fl (.own 53) 3 (flatten (map T_Tok.enc v1.1))),(5,vi v1.2)] [0] [7,8] [zq [0] 1 7,zq [1] 2 8,⟨[],[2],[3],[(.slot 6)]⟩,⟨[],[3],[5,4],[(.slot 9)]⟩,zq [5] 6 10,⟨[],[4],[7],[(.slot 4)]⟩,zq [6] 8 5] [(_,_),(_,_)] rfl ⟨z1 rfl,zp rfl (op_call _ _ 34 _ _ rfl call34 rfl (ok_match_Tokens b _ hv1) rfl rfl),zp rfl (op_move_take _ _ _ _ rfl),zp rfl (op_extract_take _ _ _ _ _ rfl (zl rfl) rfl rfl (by decide) rfl),zp rfl (oE rfl),zp rfl (op_assign_take _ _ _ _ rfl),z2 rfl,zz⟩ ?_
  refine pt_then (ht_seq ?_)
  refine zgg hn [_,_,(11,vi v1.2),(12,vb (v1.2 != 0))] [0,1] [0,1,3] [zq [1] 2 11,zq [2] 3 12] [(_,_),(_,_),(_,_)] rfl ⟨z1 rfl,z4 rfl rfl,zz⟩ ?_
  refine ht_cond _ rfl (fun hb2 => ?_) (fun hb2 => ?_)
  ·have h := cond_t hb2 h
   refine zgg hn [_,_,_,(13,vi v1.2),(2,vz),(3,vi v1.2)] [0,1,2] [4,5] [zq [1] 3 13,zq [] 4 2,zq [3] 5 3] [(_,_),(_,_)] rfl ⟨z1 rfl,z2 rfl,z2 rfl,zz⟩ ?_
   refine ht_ret ?_
   refine pt_sub (fs := [(2,.fl (.own 5) 1 (map (int .u8) [])),(3,vi v1.2)]) (.sub _ (sub_nil 5 1) rfl (.same _ .nil)) ?_
   refine pt_r_then ?_
   obtain rfl := zi h
   exact pt_ret hio rfl (.tmp _ _ (.tmp _ _ .nil)) rfl rfl
  ·have h := cond_f hb2 h
   refine ht_skip ?_
   refine pt_then (ht_seq ?_)
   obtain ⟨v3, hv3, h⟩ := zn h
   obtain ⟨v4, hv4, h⟩ := zn h
   refine zg hn [_,_,_,(14,.fl (.own 53) 3 (flatten (map T_Tok.enc v1.1))),(15,.obox (Option.isSome v3) 57 [.fl (.own 5) 1 (map (int .u8) (((Option.getD v3 (default : T_shrink_writer))).b)),vi (((Option.getD v3 (default : T_shrink_writer))).n)]),(16,.ptr 15 0),(15,.box 57 [.fl (.own 5) 1 (map (int .u8) v4.b),vi v4.n]),(17,.ptr 15 0),(18,.same (.cell 15 0)),(2,.fl (.own 5) 1 (map (int .u8) v4.b)),(15,.box 57 [.any,vi v4.n]),(3,vi 0)] [0,1,2] [9,11] [⟨[],[0],[3],[(.slot 14)]⟩,zq [3] 4 15,⟨[],[4],[6,5],[(.slot 16),(.cell 15 0),(.cell 15 1)]⟩,zq [5,6] 7 17,zq [7,6] 8 18,⟨[8],[6],[10,9],[(.slot 2)]⟩,zq [] 11 3] [(_,_),(_,_)] rfl ⟨zp rfl (op_move_take _ _ _ _ rfl),zp rfl (op_call _ _ 35 _ _ rfl call35 rfl (ok_shrink_fixedBlock v1.1 _ hv3) rfl rfl),zp rfl (op_nilCheck_ob _ 16 15 2 (by rw [hv4]; rfl) (by rw [hv4]; rfl) rfl (by decide) rfl rfl),zp rfl (oF underlying57 rfl sz22),zp rfl (oL underlying22 rfl),zp rfl (op_assign_cell _ 2 15 0 rfl rfl (zl rfl) rfl (by decide) rfl),z2 rfl,zz⟩ ?_
   refine pt_then (ht_ret ?_)
   obtain rfl := zi h
   exact pt_ret hio rfl (.tmp _ _ (.tmp _ _ .nil)) rfl rfl
theorem ok_match_validMatch (t : T_Tok) (r : Bool) (h : Sh.match_validMatch t = some r) : FnOK Tryd.prog 106 [.agg [.v (.int .u8 t.Byte), .v (.int .i64 t.Len), .v (.int .i64 t.Dist)]] (.v (.bool r)) := by
  unfold Sh.match_validMatch at h
  refine fn_ok func106 rfl (zl rfl) rfl rfl fun g0 hn hio => ?_
  refine zgg hn [_,(1,.box 53 [.v (.int .u8 t.Byte),vi t.Len,vi t.Dist]),(2,vb false)] [0] [1] [zq [0] 1 1,zq [] 2 2] [(_,_)] rfl ⟨zp rfl (op_box _ _ _ _ rfl rfl rfl),z2 rfl,zz⟩ ?_
  refine ht_seq ?_
  refine ht_joinS h (fun (s1 : Bool) => [(2,vb s1)]) ?_ ?_
  ·rintro s1 h
   refine pt_then (ht_ret ?_)
   obtain rfl := zi h
   exact pt_ret hio rfl (.tmp _ _ .nil) rfl rfl
  ·intro u2 h hl3 hr4
   refine cond_some h (fun hg1_3 h => ?_) (fun hg1_3 h => ?_)
   ·refine cond_some h (fun hg1_8 h => ?_) (fun hg1_8 h => ?_)
    ·refine cond_some h (fun hg1_13 h => ?_) (fun hg1_13 h => ?_)
     ·refine cond_some h (fun hg1_18 h => ?_) (fun hg1_18 h => ?_)
      ·refine zg hn (_::(3,.ptr 1 0)::(4,.v (.int .u8 t.Byte))::(5,vb (t.Byte == 0))::(6,vb true)::(7,.ptr 1 1)::(8,vi t.Len)::(9,vb (decide (3 ≤ t.Len)))::(10,vb (decide (3 ≤ t.Len)))::(11,vb true)::(12,.ptr 1 1)::(13,vi t.Len)::(14,vb (decide (t.Len ≤ 258)))::(15,vb (decide (t.Len ≤ 258)))::(16,vb true)::(17,.ptr 1 2)::(18,vi t.Dist)::(19,vb (decide (1 ≤ t.Dist)))::(20,vb (decide (1 ≤ t.Dist)))::(21,vb true)::(22,.ptr 1 2)::(23,vi t.Dist)::(24,vb (decide (t.Dist ≤ 2048)))::(25,vb (decide (t.Dist ≤ 2048)))::(2,vb (decide (t.Dist ≤ 2048)))::[]) [0] [24] (zq [0] 1 3::zq [1,0] 2 4::zq [2] 3 5::zq [3] 4 6::zq [4,0] 5 7::zq [4,5,0] 6 8::zq [4,6] 7 9::zq [4,7] 8 10::zq [8] 9 11::zq [9,0] 10 12::zq [9,10,0] 11 13::zq [9,11] 12 14::zq [9,12] 13 15::zq [13] 14 16::zq [14,0] 15 17::zq [14,15,0] 16 18::zq [14,16] 17 19::zq [14,17] 18 20::zq [18] 19 21::zq [19,0] 20 22::zq [19,20,0] 21 23::zq [19,21] 22 24::zq [19,22] 23 25::zq [23] 24 2::[]) [(_,_)] rfl ⟨zp rfl (oF underlying53 rfl sz5),zp rfl (oL underlying5 rfl),z4 rfl rfl,z8 hg1_3 rfl,zr' rfl (oF underlying53 rfl sz3),zr' rfl (oL underlying3 rfl),zr' rfl (oB rfl rfl),z3 true rfl,z8 hg1_8 rfl,zr' rfl (oF underlying53 rfl sz3),zr' rfl (oL underlying3 rfl),zr' rfl (oB rfl rfl),z3 true rfl,z8 hg1_13 rfl,zr' rfl (oF underlying53 rfl sz3),zr' rfl (oL underlying3 rfl),zr' rfl (oB rfl rfl),z3 true rfl,z8 hg1_18 rfl,zr' rfl (oF underlying53 rfl sz3),zr' rfl (oL underlying3 rfl),zr' rfl (oB rfl rfl),z3 true rfl,z2 rfl,zz⟩ ?_
       exact hl3 _ (zi h).symm
      ·refine zg hn (_::(3,.ptr 1 0)::(4,.v (.int .u8 t.Byte))::(5,vb (t.Byte == 0))::(6,vb true)::(7,.ptr 1 1)::(8,vi t.Len)::(9,vb (decide (3 ≤ t.Len)))::(10,vb (decide (3 ≤ t.Len)))::(11,vb true)::(12,.ptr 1 1)::(13,vi t.Len)::(14,vb (decide (t.Len ≤ 258)))::(15,vb (decide (t.Len ≤ 258)))::(16,vb true)::(17,.ptr 1 2)::(18,vi t.Dist)::(19,vb (decide (1 ≤ t.Dist)))::(20,vb (decide (1 ≤ t.Dist)))::(21,vb false)::(22,.v undef)::(23,.v undef)::(24,.v undef)::(25,vb false)::(2,vb false)::[]) [0] [24] (zq [0] 1 3::zq [1,0] 2 4::zq [2] 3 5::zq [3] 4 6::zq [4,0] 5 7::zq [4,5,0] 6 8::zq [4,6] 7 9::zq [4,7] 8 10::zq [8] 9 11::zq [9,0] 10 12::zq [9,10,0] 11 13::zq [9,11] 12 14::zq [9,12] 13 15::zq [13] 14 16::zq [14,0] 15 17::zq [14,15,0] 16 18::zq [14,16] 17 19::zq [14,17] 18 20::zq [18] 19 21::zq [19] 20 22::zq [19] 21 23::zq [19] 22 24::zq [19] 23 25::zq [23] 24 2::[]) [(_,_)] rfl ⟨zp rfl (oF underlying53 rfl sz5),zp rfl (oL underlying5 rfl),z4 rfl rfl,z8 hg1_3 rfl,zr' rfl (oF underlying53 rfl sz3),zr' rfl (oL underlying3 rfl),zr' rfl (oB rfl rfl),z3 true rfl,z8 hg1_8 rfl,zr' rfl (oF underlying53 rfl sz3),zr' rfl (oL underlying3 rfl),zr' rfl (oB rfl rfl),z3 true rfl,z8 hg1_13 rfl,zr' rfl (oF underlying53 rfl sz3),zr' rfl (oL underlying3 rfl),zr' rfl (oB rfl rfl),z3 true rfl,z8 hg1_18 rfl,zt rfl,zt rfl,zt rfl,z3 false rfl,z2 rfl,zz⟩ ?_
       exact hl3 _ (zi h).symm
     ·refine zg hn (_::(3,.ptr 1 0)::(4,.v (.int .u8 t.Byte))::(5,vb (t.Byte == 0))::(6,vb true)::(7,.ptr 1 1)::(8,vi t.Len)::(9,vb (decide (3 ≤ t.Len)))::(10,vb (decide (3 ≤ t.Len)))::(11,vb true)::(12,.ptr 1 1)::(13,vi t.Len)::(14,vb (decide (t.Len ≤ 258)))::(15,vb (decide (t.Len ≤ 258)))::(16,vb false)::(17,.v undef)::(18,.v undef)::(19,.v undef)::(20,vb false)::(21,vb false)::(22,.v undef)::(23,.v undef)::(24,.v undef)::(25,vb false)::(2,vb false)::[]) [0] [24] (zq [0] 1 3::zq [1,0] 2 4::zq [2] 3 5::zq [3] 4 6::zq [4,0] 5 7::zq [4,5,0] 6 8::zq [4,6] 7 9::zq [4,7] 8 10::zq [8] 9 11::zq [9,0] 10 12::zq [9,10,0] 11 13::zq [9,11] 12 14::zq [9,12] 13 15::zq [13] 14 16::zq [14] 15 17::zq [14] 16 18::zq [14] 17 19::zq [14] 18 20::zq [18] 19 21::zq [19] 20 22::zq [19] 21 23::zq [19] 22 24::zq [19] 23 25::zq [23] 24 2::[]) [(_,_)] rfl ⟨zp rfl (oF underlying53 rfl sz5),zp rfl (oL underlying5 rfl),z4 rfl rfl,z8 hg1_3 rfl,zr' rfl (oF underlying53 rfl sz3),zr' rfl (oL underlying3 rfl),zr' rfl (oB rfl rfl),z3 true rfl,z8 hg1_8 rfl,zr' rfl (oF underlying53 rfl sz3),zr' rfl (oL underlying3 rfl),zr' rfl (oB rfl rfl),z3 true rfl,z8 hg1_13 rfl,zt rfl,zt rfl,zt rfl,z3 false rfl,z1 rfl,zt rfl,zt rfl,zt rfl,z3 false rfl,z2 rfl,zz⟩ ?_
      exact hl3 _ (zi h).symm
    ·refine zg hn (_::(3,.ptr 1 0)::(4,.v (.int .u8 t.Byte))::(5,vb (t.Byte == 0))::(6,vb true)::(7,.ptr 1 1)::(8,vi t.Len)::(9,vb (decide (3 ≤ t.Len)))::(10,vb (decide (3 ≤ t.Len)))::(11,vb false)::(12,.v undef)::(13,.v undef)::(14,.v undef)::(15,vb false)::(16,vb false)::(17,.v undef)::(18,.v undef)::(19,.v undef)::(20,vb false)::(21,vb false)::(22,.v undef)::(23,.v undef)::(24,.v undef)::(25,vb false)::(2,vb false)::[]) [0] [24] (zq [0] 1 3::zq [1,0] 2 4::zq [2] 3 5::zq [3] 4 6::zq [4,0] 5 7::zq [4,5,0] 6 8::zq [4,6] 7 9::zq [4,7] 8 10::zq [8] 9 11::zq [9] 10 12::zq [9] 11 13::zq [9] 12 14::zq [9] 13 15::zq [13] 14 16::zq [14] 15 17::zq [14] 16 18::zq [14] 17 19::zq [14] 18 20::zq [18] 19 21::zq [19] 20 22::zq [19] 21 23::zq [19] 22 24::zq [19] 23 25::zq [23] 24 2::[]) [(_,_)] rfl ⟨zp rfl (oF underlying53 rfl sz5),zp rfl (oL underlying5 rfl),z4 rfl rfl,z8 hg1_3 rfl,zr' rfl (oF underlying53 rfl sz3),zr' rfl (oL underlying3 rfl),zr' rfl (oB rfl rfl),z3 true rfl,z8 hg1_8 rfl,zt rfl,zt rfl,zt rfl,z3 false rfl,z1 rfl,zt rfl,zt rfl,zt rfl,z3 false rfl,z1 rfl,zt rfl,zt rfl,zt rfl,z3 false rfl,z2 rfl,zz⟩ ?_
     exact hl3 _ (zi h).symm
   ·refine zg hn (_::(3,.ptr 1 0)::(4,.v (.int .u8 t.Byte))::(5,vb (t.Byte == 0))::(6,vb false)::(7,.v undef)::(8,.v undef)::(9,.v undef)::(10,vb false)::(11,vb false)::(12,.v undef)::(13,.v undef)::(14,.v undef)::(15,vb false)::(16,vb false)::(17,.v undef)::(18,.v undef)::(19,.v undef)::(20,vb false)::(21,vb false)::(22,.v undef)::(23,.v undef)::(24,.v undef)::(25,vb false)::(2,vb false)::[]) [0] [24] (zq [0] 1 3::zq [1,0] 2 4::zq [2] 3 5::zq [3] 4 6::zq [4] 5 7::zq [4] 6 8::zq [4] 7 9::zq [4] 8 10::zq [8] 9 11::zq [9] 10 12::zq [9] 11 13::zq [9] 12 14::zq [9] 13 15::zq [13] 14 16::zq [14] 15 17::zq [14] 16 18::zq [14] 17 19::zq [14] 18 20::zq [18] 19 21::zq [19] 20 22::zq [19] 21 23::zq [19] 22 24::zq [19] 23 25::zq [23] 24 2::[]) [(_,_)] rfl ⟨zp rfl (oF underlying53 rfl sz5),zp rfl (oL underlying5 rfl),z4 rfl rfl,z8 hg1_3 rfl,zt rfl,zt rfl,zt rfl,z3 false rfl,z1 rfl,zt rfl,zt rfl,zt rfl,z3 false rfl,z1 rfl,zt rfl,zt rfl,zt rfl,z3 false rfl,z1 rfl,zt rfl,zt rfl,zt rfl,z3 false rfl,z2 rfl,zz⟩ ?_
    exact hl3 _ (zi h).symm
theorem ok_match_Check (l : (List T_Tok)) (r : Int) (h : Sh.match_Check l = some r) : FnOK Tryd.prog 86 [.fl .shr 3 (flatten (map T_Tok.enc l))] (.v (.int .i64 r)) := by
  unfold Sh.match_Check at h
  refine fn_ok func86 rfl (zl rfl) rfl rfl fun g0 hn hio => ?_
  refine zgg hn [_,(2,vi 0)] [0] [0] [zq [] 1 2] [(_,_)] rfl ⟨z2 rfl,zz⟩ ?_
  refine zgg hn [_,(3,vi 0)] [0] [0,1] [zq [] 1 3] [(_,_),(_,_)] rfl ⟨z2 rfl,zz⟩ ?_
  refine ht_seq ?_
  refine zgg hn [_,_,(6,.fl .shr 3 (flatten (map T_Tok.enc l))),(7,vi (l.length : Int)),(8,vi 0)] [0,1] [1,2,3,4] [zq [0] 2 6,zq [2] 3 7,zq [] 4 8] [(_,_),(_,_),(_,_),(_,_)] rfl ⟨z1 rfl,zp rfl (op_len_fl _ _ _ underlying45 rfl (by decide) (flat_len T_Tok.len _)),z1 rfl,zz⟩ ?_
  refine ht_loopS h (fun ((s115,s116) : Int × Int) => [(3,vi s115),(6,.fl .shr 3 (flatten (map T_Tok.enc l))),(7,vi (l.length : Int)),(8,vi s116)]) (fun (s170 : Int) => [(3,vi s170)]) ?_ ?_
  ·rintro s170 h
   refine pt_then (ht_seq ?_)
   refine zgg hn [_,(37,vi s170),(38,vb (decide (4096 < s170)))] [0] [2] [zq [0] 1 37,zq [1] 2 38] [(_,_)] rfl ⟨z1 rfl,z4 rfl rfl,zz⟩ ?_
   refine ht_cond _ rfl (fun hb230 => ?_) (fun hb230 => ?_)
   ·have h := cond_t hb230 h
    refine zgg hn [_,(2,vi 2)] [0] [1] [zq [] 1 2] [(_,_)] rfl ⟨z2 rfl,zz⟩ ?_
    refine ht_ret ?_
    refine pt_r_then ?_
    obtain rfl := zi h
    exact pt_ret hio rfl (.tmp _ _ .nil) rfl rfl
   ·have h := cond_f hb230 h
    refine ht_skip ?_
    refine pt_then ?_
    refine zgg hn [_,(2,vi 0)] [0] [1] [zq [] 1 2] [(_,_)] rfl ⟨z2 rfl,zz⟩ ?_
    refine ht_ret ?_
    obtain rfl := zi h
    exact pt_ret hio rfl (.tmp _ _ .nil) rfl rfl
  ·rintro u171 hl172 hr173 ⟨s115, s116⟩ rr176 h ho174
   refine zgg hn [_,_,_,_,(9,vb (decide (s116 < (l.length : Int))))] [0,1,2,3] [0,1,2,3,4] [zq [3,2] 4 9] [(_,_),(_,_),(_,_),(_,_),(_,_)] rfl ⟨z4 rfl rfl,zz⟩ ?_
   refine ht_seq ?_
   refine ht_cond _ rfl (fun hb177 => ?_) (fun hb177 => ?_)
   ·have h := cond_t hb177 h
    refine ht_skip ?_
    refine pt_then (ht_seq ?_)
    refine ht_joinS h (fun (s202 : Int) => [(6,.fl .shr 3 (flatten (map T_Tok.enc l))),(7,vi (l.length : Int)),(8,vi s116),(3,vi s202)]) ?_ ?_
    ·rintro s202 h
     refine pt_then ?_
     obtain ⟨v59, hv59, h⟩ := zn h
     refine zg hn [_,_,_,_,(36,vi v59),(8,vi v59)] [0,1,2,3] [0,1,3,5] [zq [2] 4 36,⟨[4],[2],[5],[(.slot 8)]⟩] [(_,_),(_,_),(_,_),(_,_)] rfl ⟨zp rfl (oB rfl (ibind (f := int .i64) (Option.some.inj hv59))),zp rfl (LOp.drop [_] (oM rfl)),zz⟩ ?_
     refine pt_pick [2,0,1,3] (by kernel_rfl) (es' := [(_,_),(_,_),(_,_),(_,_)]) rfl ?_
     exact pt_next _ (zi h).symm rfl
    ·intro u203 h hl204 hr205
     refine ht_block ?_
     refine ht_seq ?_
     obtain ⟨v2, hv2, h⟩ := zn h
     obtain ⟨v3, hv3, h⟩ := zn h
     refine zg hn [_,_,_,_,_,(10,.eref (.slot 6) (v2 * 3)),(11,.agg [.v (.int .u8 v3.Byte),vi v3.Len,vi v3.Dist]),(5,.box 53 [.v (.int .u8 0),vi 0,vi 0]),(5,.box 53 [.v (.int .u8 v3.Byte),vi v3.Len,vi v3.Dist])] [0,1,2,3,4] [0,1,2,3,8] [zq [1,3] 5 10,zq [5,1] 6 11,zq [] 7 5,⟨[6],[7],[8],[.cell 5 0,.cell 5 1,.cell 5 2]⟩] [(_,_),(_,_),(_,_),(_,_),(_,_)] rfl ⟨zp rfl (op_ix _ _ _ _ _ _ _ _ underlying45 sz53 (by decide) rfl rfl rfl (ix_ok hv2).1 (flat_lt T_Tok.len (ix_ok hv2).2) rfl),zp rfl (op_load_eA _ _ _ _ _ _ _ underlying53 rfl sz53 rfl rfl (flat_get T_Tok.len hv3) rfl (by decide)),zp rfl (op_alloc _ _ zr53),zp rfl (oS sz53 rfl),zz⟩ ?_
     refine pt_then ?_
     refine ht_joinS h (fun (s216 : Int) => [(6,.fl .shr 3 (flatten (map T_Tok.enc l))),(7,vi (l.length : Int)),(8,vi s116),(3,vi s216)]) ?_ ?_
     ·rintro s216 h
      refine pt_inb ?_
      exact hl204 _ (zi h).symm
     ·intro u217 h hl218 hr219
      refine ht_block ?_
      refine ht_seq ?_
      refine ht_joinS h (fun (s220 : Bool) => [(3,vi s115),(6,.fl .shr 3 (flatten (map T_Tok.enc l))),(7,vi (l.length : Int)),(8,vi s116),(5,.box 53 [.v (.int .u8 v3.Byte),vi v3.Len,vi v3.Dist]),(12,vb s220)]) ?_ ?_
      ·rintro s220 h
       refine pt_then ?_
       refine ht_cond _ rfl (fun hb224 => ?_) (fun hb224 => ?_)
       ·have h := cond_t hb224 h
        obtain ⟨v9, hv9, h⟩ := zn h
        refine zg hn [_,_,_,_,_,_,(21,vi s115),(22,vi v9),(3,vi v9)] [0,1,2,3,4,5] [1,2,3,8] [zq [0] 6 21,zq [6] 7 22,⟨[7],[0],[8],[(.slot 3)]⟩] [(_,_),(_,_),(_,_),(_,_)] rfl ⟨z1 rfl,zp rfl (oB rfl (ibind (f := int .i64) (Option.some.inj hv9))),zp rfl (LOp.drop [_] (op_assign _ _ _ _ rfl rfl)),zz⟩ ?_
        refine pt_inb ?_
        exact hl218 _ (zi h).symm
       ·have h := cond_f hb224 h
        refine ht_seq ?_
        refine ht_joinS h (fun (s225 : Bool) => [(3,vi s115),(6,.fl .shr 3 (flatten (map T_Tok.enc l))),(7,vi (l.length : Int)),(8,vi s116),(5,.box 53 [.v (.int .u8 v3.Byte),vi v3.Len,vi v3.Dist]),(23,vb s225)]) ?_ ?_
        ·rintro s225 h
         refine pt_then ?_
         refine ht_cond _ rfl (fun hb229 => ?_) (fun hb229 => ?_)
         ·have h := cond_t hb229 h
          obtain ⟨v16, hv16, h⟩ := zn h
          refine zg hn [_,_,_,_,_,_,(32,vi s115),(33,.ptr 5 1),(34,vi v3.Len),(35,vi v16),(3,vi v16)] [0,1,2,3,4,5] [1,2,3,10] [zq [0] 6 32,zq [4] 7 33,zq [7,4] 8 34,zq [6,8] 9 35,⟨[9],[0],[10],[(.slot 3)]⟩] [(_,_),(_,_),(_,_),(_,_)] rfl ⟨z1 rfl,zp rfl (oF underlying53 rfl sz3),zp rfl (oL underlying3 rfl),zp rfl (oB rfl (ibind (f := int .i64) (Option.some.inj hv16))),zp rfl (LOp.drop [_] (op_assign _ _ _ _ rfl rfl)),zz⟩ ?_
          refine pt_inb ?_
          exact hl218 _ (zi h).symm
         ·have h := cond_f hb229 h
          refine zgg hn [_,_,_,_,_,_,(2,vi 1)] [0,1,2,3,4,5] [6] [zq [] 6 2] [(_,_)] rfl ⟨z2 rfl,zz⟩ ?_
          refine ht_ret ?_
          refine pt_r_in ?_
          refine pt_r_in ?_
          refine pt_r_then ?_
          refine pt_r_then ?_
          refine pt_r_in ?_
          refine pt_r_then ?_
          have h := hr219 _ (zi h).symm
          have h := hr205 _ (zi h).symm
          have h := hr173 _ (ho174 _ (zi h).symm).symm
          obtain rfl := zi h
          exact pt_ret hio rfl (.tmp _ _ .nil) rfl rfl
        ·intro u226 h hl227 hr228
         obtain ⟨v10, hv10, h⟩ := zn h
         refine cond_some h (fun hg8_2 h => ?_) (fun hg8_2 h => ?_)
         ·refine zg hn (_::_::_::_::_::_::(24,.agg [.v (.int .u8 v3.Byte),vi v3.Len,vi v3.Dist])::(25,vb v10)::(26,vb true)::(27,.ptr 5 2)::(28,vi v3.Dist)::(29,vi s115)::(30,vb (decide (v3.Dist ≤ s115)))::(31,vb (decide (v3.Dist ≤ s115)))::(23,vb (decide (v3.Dist ≤ s115)))::[]) [0,1,2,3,4,5] [0,1,2,3,4,14] [zq [4] 6 24,zq [6] 7 25,zq [7] 8 26,zq [8,4] 9 27,zq [8,9,4] 10 28,zq [8,0] 11 29,zq [8,10,11] 12 30,zq [8,12] 13 31,zq [13] 14 23] [(_,_),(_,_),(_,_),(_,_),(_,_),(_,_)] rfl ⟨zp rfl (op_loadA _ _ _ _ _ _ _ underlying53 rfl sz53 rfl rfl (zl rfl) rfl rfl),zp rfl (op_call _ _ 106 _ _ rfl call106 rfl (ok_match_validMatch v3 _ hv10) rfl rfl),z8 hg8_2 rfl,zr' rfl (oF underlying53 rfl sz3),zr' rfl (oL underlying3 rfl),zr' rfl (oM rfl),zr' rfl (oB rfl rfl),z3 true rfl,z2 rfl,zz⟩ ?_
          exact hl227 _ (zi h).symm
         ·refine zg hn (_::_::_::_::_::_::(24,.agg [.v (.int .u8 v3.Byte),vi v3.Len,vi v3.Dist])::(25,vb v10)::(26,vb false)::(27,.v undef)::(28,.v undef)::(29,.v undef)::(30,.v undef)::(31,vb false)::(23,vb false)::[]) [0,1,2,3,4,5] [0,1,2,3,4,14] [zq [4] 6 24,zq [6] 7 25,zq [7] 8 26,zq [8] 9 27,zq [8] 10 28,zq [8] 11 29,zq [8] 12 30,zq [8] 13 31,zq [13] 14 23] [(_,_),(_,_),(_,_),(_,_),(_,_),(_,_)] rfl ⟨zp rfl (op_loadA _ _ _ _ _ _ _ underlying53 rfl sz53 rfl rfl (zl rfl) rfl rfl),zp rfl (op_call _ _ 106 _ _ rfl call106 rfl (ok_match_validMatch v3 _ hv10) rfl rfl),z8 hg8_2 rfl,zt rfl,zt rfl,zt rfl,zt rfl,z3 false rfl,z2 rfl,zz⟩ ?_
          exact hl227 _ (zi h).symm
      ·intro u221 h hl222 hr223
       refine cond_some h (fun hg6_3 h => ?_) (fun hg6_3 h => ?_)
       ·refine zg hn [_,_,_,_,_,(13,.ptr 5 1),(14,vi v3.Len),(15,vb (v3.Len == 0)),(16,vb true),(17,.ptr 5 2),(18,vi v3.Dist),(19,vb (v3.Dist == 0)),(20,vb (v3.Dist == 0)),(12,vb (v3.Dist == 0))] [0,1,2,3,4] [0,1,2,3,4,13] [zq [4] 5 13,zq [5,4] 6 14,zq [6] 7 15,zq [7] 8 16,zq [8,4] 9 17,zq [8,9,4] 10 18,zq [8,10] 11 19,zq [8,11] 12 20,zq [12] 13 12] [(_,_),(_,_),(_,_),(_,_),(_,_),(_,_)] rfl ⟨zp rfl (oF underlying53 rfl sz3),zp rfl (oL underlying3 rfl),z4 rfl rfl,z8 hg6_3 rfl,zr' rfl (oF underlying53 rfl sz3),zr' rfl (oL underlying3 rfl),zr' rfl (oB rfl rfl),z3 true rfl,z2 rfl,zz⟩ ?_
        exact hl222 _ (zi h).symm
       ·refine zg hn [_,_,_,_,_,(13,.ptr 5 1),(14,vi v3.Len),(15,vb (v3.Len == 0)),(16,vb false),(17,.v undef),(18,.v undef),(19,.v undef),(20,vb false),(12,vb false)] [0,1,2,3,4] [0,1,2,3,4,13] [zq [4] 5 13,zq [5,4] 6 14,zq [6] 7 15,zq [7] 8 16,zq [8] 9 17,zq [8] 10 18,zq [8] 11 19,zq [8] 12 20,zq [12] 13 12] [(_,_),(_,_),(_,_),(_,_),(_,_),(_,_)] rfl ⟨zp rfl (oF underlying53 rfl sz3),zp rfl (oL underlying3 rfl),z4 rfl rfl,z8 hg6_3 rfl,zt rfl,zt rfl,zt rfl,z3 false rfl,z2 rfl,zz⟩ ?_
        exact hl222 _ (zi h).symm
   ·have h := cond_f hb177 h
    refine ht_exit ?_
    refine pt_x_then ?_
    refine pt_x_then ?_
    refine pt_x_in ?_
    refine pt_pick [0] (by kernel_rfl) (es' := [(_,_)]) rfl ?_
    exact hl172 _ (ho174 _ (zi h).symm).symm
theorem ok_sym_Weights (l : (List T_Tok)) (r : ((List Int) × (List Int) × Int)) (h : Sh.sym_Weights l = some r) : FnOK Tryd.prog 62 [.fl .shr 3 (flatten (map T_Tok.enc l))] (.tup [.fl (.own 3) 1 (map (int .i64) r.1), .fl (.own 3) 1 (map (int .i64) r.2.1), .v (.int .i64 r.2.2)]) := by
  unfold Sh.sym_Weights at h
  refine fn_ok func62 rfl (zl rfl) rfl rfl fun g0 hn hio => ?_
  refine zgg hn [_,(2,vz),(3,vz),(4,vi 0)] [0] [0] [zq [] 1 2,zq [] 2 3,zq [] 3 4] [(_,_)] rfl ⟨z2 rfl,z2 rfl,z2 rfl,zz⟩ ?_
  refine ht_seq ?_
  refine ht_seq ?_
  obtain ⟨v1, hv1, h⟩ := zn h
  refine zg hn [_,(16,.fl .shr 3 (flatten (map T_Tok.enc l))),(17,vi v1),(5,vi v1)] [0] [0,3] [zq [0] 1 16,zq [1] 2 17,zq [2] 3 5] [(_,_),(_,_)] rfl ⟨z1 rfl,zp rfl (op_call _ _ 86 _ _ rfl call86 rfl (ok_match_Check l _ hv1) rfl rfl),z2 rfl,zz⟩ ?_
  refine pt_then ?_
  refine zgg hn [_,_,(18,vi v1),(19,vb (v1 != 0))] [0,1] [0,1,3] [zq [1] 2 18,zq [2] 3 19] [(_,_),(_,_),(_,_)] rfl ⟨z1 rfl,z4 rfl rfl,zz⟩ ?_
  refine ht_cond _ rfl (fun hb2 => ?_) (fun hb2 => ?_)
  ·have h := cond_t hb2 h
   refine zgg hn [_,_,_,(20,vi v1),(2,vz),(3,vz),(4,vi v1)] [0,1,2] [4,5,6] [zq [1] 3 20,zq [] 4 2,zq [] 5 3,zq [3] 6 4] [(_,_),(_,_),(_,_)] rfl ⟨z1 rfl,z2 rfl,z2 rfl,z2 rfl,zz⟩ ?_
   refine ht_ret ?_
   refine pt_sub (fs := [(2,.fl (.own 3) 1 (map (int .i64) [])),(3,.fl (.own 3) 1 (map (int .i64) [])),(4,vi v1)]) (.sub _ (sub_nil 3 1) rfl (.sub _ (sub_nil 3 1) rfl (.same _ .nil))) ?_
   refine pt_r_then ?_
   obtain rfl := zi h
   exact pt_ret hio rfl (.tmp _ _ (.tmp _ _ (.tmp _ _ .nil))) rfl rfl
  ·have h := cond_f hb2 h
   refine ht_skip ?_
   refine pt_then (ht_seq ?_)
   obtain ⟨v3, hv3, h⟩ := zn h
   obtain ⟨v4, hv4, h⟩ := zn h
   refine ht_anyR (by kernel_rfl) hn (El := [_,_,_,(21,.fl (.own 3) 1 (map (int .i64) v3)),(22,.fl (.own 3) 1 (map (int .i64) v4)),(2,.fl (.own 3) 1 (map (int .i64) v3)),(3,.fl (.own 3) 1 (map (int .i64) v4))]) (init := [0,1,2]) (fin := [0,5,6]) (sps := [zq [] 3 21,zq [] 4 22,⟨[],[3],[5],[(.slot 2)]⟩,⟨[],[4],[6],[(.slot 3)]⟩]) (es' := [(_,_),(2,.fl (.own 3) 1 (map (int .i64) v3)),(3,.fl (.own 3) 1 (map (int .i64) v4))]) (by kernel_rfl) rfl rfl ⟨zp rfl (op_mk (f := int .i64) _ _ _ _ el37 (by decide) zr3 rfl rfl rfl hv3),zp rfl (op_mk (f := int .i64) _ _ _ _ el37 (by decide) zr3 rfl rfl rfl hv4),zp rfl (op_assign_take _ _ _ _ rfl),zp rfl (op_assign_take _ _ _ _ rfl),zz⟩ ?_
   refine pt_then (ht_seq ?_)
   obtain ⟨v5, hv5, h⟩ := zn h
   obtain ⟨v6, hv6, h⟩ := zn h
   refine zg hn [_,_,_,(23,.same (.slot 2)),(24,.eref (.slot 2) (v5 * 1)),(2,.fl (.own 3) 1 (map (int .i64) v6))] [0,1,2] [0,5,2] [zq [1] 3 23,zq [3,1] 4 24,⟨[4],[1],[5],[]⟩] [(_,_),(_,_),(_,_)] rfl ⟨z1 rfl,zp rfl (op_ix _ _ _ _ _ _ _ _ underlying37 sz3 (by decide) rfl rfl rfl (ix_ok hv5).1 (map_lt (ix_ok hv5).2) rfl),zp rfl (op_store_e _ _ _ _ _ _ _ _ sz3 rfl rfl rfl (by decide) (map_lt (ix_ok hv5).2) ((map_set (f := int .i64) _ (ix_ok hv5).2).trans (congrArg (map _) (Option.some.inj hv6)))),zz⟩ ?_
   refine pt_then (ht_seq ?_)
   refine zgg hn [_,_,_,(25,.fl .shr 3 (flatten (map T_Tok.enc l))),(26,vi (l.length : Int)),(27,vi 0)] [0,1,2] [1,2,3,4,5] [zq [0] 3 25,zq [3] 4 26,zq [] 5 27] [(_,_),(_,_),(_,_),(_,_),(_,_)] rfl ⟨z1 rfl,zp rfl (op_len_fl _ _ _ underlying45 rfl (by decide) (flat_len T_Tok.len _)),z1 rfl,zz⟩ ?_
   refine ht_loopS h (fun ((s46,s47,s48) : (List Int) × (List Int) × Int) => [(2,.fl (.own 3) 1 (map (int .i64) s46)),(3,.fl (.own 3) 1 (map (int .i64) s47)),(25,.fl .shr 3 (flatten (map T_Tok.enc l))),(26,vi (l.length : Int)),(27,vi s48)]) (fun ((s57,s58) : (List Int) × (List Int)) => [(2,.fl (.own 3) 1 (map (int .i64) s57)),(3,.fl (.own 3) 1 (map (int .i64) s58))]) ?_ ?_
   ·rintro ⟨s57, s58⟩ h
    refine pt_then ?_
    refine zgg hn [_,_,(70,.fl (.own 3) 1 (map (int .i64) s57)),(71,.fl (.own 3) 1 (map (int .i64) s58)),(2,.fl (.own 3) 1 (map (int .i64) s57)),(3,.fl (.own 3) 1 (map (int .i64) s58)),(4,vi 0)] [0,1] [4,5,6] [⟨[],[0],[2],[(.slot 70)]⟩,⟨[],[1],[3],[(.slot 71)]⟩,⟨[],[2],[4],[(.slot 2)]⟩,⟨[],[3],[5],[(.slot 3)]⟩,zq [] 6 4] [(_,_),(_,_),(_,_)] rfl ⟨zp rfl (op_move_take _ _ _ _ rfl),zp rfl (op_move_take _ _ _ _ rfl),zp rfl (op_assign_take _ _ _ _ rfl),zp rfl (op_assign_take _ _ _ _ rfl),z2 rfl,zz⟩ ?_
    refine ht_ret ?_
    obtain rfl := zi h
    exact pt_ret hio rfl (.tmp _ _ (.tmp _ _ (.tmp _ _ .nil))) rfl rfl
   ·rintro u59 hl60 hr61 ⟨s46, s47, s48⟩ rr64 h ho62
    refine zgg hn [_,_,_,_,_,(28,vb (decide (s48 < (l.length : Int))))] [0,1,2,3,4] [0,1,2,3,4,5] [zq [4,3] 5 28] [(_,_),(_,_),(_,_),(_,_),(_,_),(_,_)] rfl ⟨z4 rfl rfl,zz⟩ ?_
    refine ht_seq ?_
    refine ht_cond _ rfl (fun hb65 => ?_) (fun hb65 => ?_)
    ·have h := cond_t hb65 h
     refine ht_skip ?_
     refine pt_then (ht_seq ?_)
     refine ht_joinS h (fun ((s67,s68) : (List Int) × (List Int)) => [(2,.fl (.own 3) 1 (map (int .i64) s67)),(3,.fl (.own 3) 1 (map (int .i64) s68)),(25,.fl .shr 3 (flatten (map T_Tok.enc l))),(26,vi (l.length : Int)),(27,vi s48)]) ?_ ?_
     ·rintro ⟨s67, s68⟩ h
      refine pt_then ?_
      obtain ⟨v34, hv34, h⟩ := zn h
      refine zg hn [_,_,_,_,_,(69,vi v34),(27,vi v34)] [0,1,2,3,4] [0,1,2,3,6] [zq [4] 5 69,⟨[5],[4],[6],[(.slot 27)]⟩] [(_,_),(_,_),(_,_),(_,_),(_,_)] rfl ⟨zp rfl (oB rfl (ibind (f := int .i64) (Option.some.inj hv34))),zp rfl (LOp.drop [_] (oM rfl)),zz⟩ ?_
      exact pt_next _ (zi h).symm rfl
     ·intro u69 h hl70 hr71
      refine ht_block ?_
      refine ht_seq ?_
      obtain ⟨v8, hv8, h⟩ := zn h
      obtain ⟨v9, hv9, h⟩ := zn h
      refine zg hn [_,_,_,_,_,_,(29,.eref (.slot 25) (v8 * 3)),(30,.agg [.v (.int .u8 v9.Byte),vi v9.Len,vi v9.Dist]),(7,.box 53 [.v (.int .u8 0),vi 0,vi 0]),(7,.box 53 [.v (.int .u8 v9.Byte),vi v9.Len,vi v9.Dist])] [0,1,2,3,4,5] [0,1,2,3,4,9] [zq [2,4] 6 29,zq [6,2] 7 30,zq [] 8 7,⟨[7],[8],[9],[.cell 7 0,.cell 7 1,.cell 7 2]⟩] [(_,_),(_,_),(_,_),(_,_),(_,_),(_,_)] rfl ⟨zp rfl (op_ix _ _ _ _ _ _ _ _ underlying45 sz53 (by decide) rfl rfl rfl (ix_ok hv8).1 (flat_lt T_Tok.len (ix_ok hv8).2) rfl),zp rfl (op_load_eA _ _ _ _ _ _ _ underlying53 rfl sz53 rfl rfl (flat_get T_Tok.len hv9) rfl (by decide)),zp rfl (op_alloc _ _ zr53),zp rfl (oS sz53 rfl),zz⟩ ?_
      refine pt_then (ht_seq ?_)
      refine zgg hn [_,_,_,_,_,_,(31,.ptr 7 1),(32,vi v9.Len),(33,vb (v9.Len == 0))] [0,1,2,3,4,5] [0,1,2,3,4,5,8] [zq [5] 6 31,zq [6,5] 7 32,zq [7] 8 33] [(_,_),(_,_),(_,_),(_,_),(_,_),(_,_),(_,_)] rfl ⟨zp rfl (oF underlying53 rfl sz3),zp rfl (oL underlying3 rfl),z4 rfl rfl,zz⟩ ?_
      refine ht_cond _ rfl (fun hb72 => ?_) (fun hb72 => ?_)
      ·have h := cond_t hb72 h
       refine ht_seq ?_
       obtain ⟨v11, hv11, h⟩ := zn h
       obtain ⟨v12, hv12, h⟩ := zn h
       obtain ⟨v13, hv13, h⟩ := zn h
       obtain ⟨v14, hv14, h⟩ := zn h
       obtain ⟨v15, hv15, h⟩ := zn h
       refine zg hn (_::_::_::_::_::_::_::(34,.same (.slot 2))::(35,.ptr 7 0)::(36,.v (.int .u8 v9.Byte))::(37,.eref (.slot 2) (v11 * 1))::(38,vi v12)::(39,vi v13)::(40,.eref (.slot 2) (v14 * 1))::(2,.fl (.own 3) 1 (map (int .i64) v15))::[]) [0,1,2,3,4,5,6] [14,1,2,3,4] [zq [0] 7 34,zq [5] 8 35,zq [8,5] 9 36,zq [7,0,9] 10 37,zq [10,0] 11 38,zq [11] 12 39,zq [7,0,9] 13 40,⟨[13,12],[0],[14],[]⟩] [(_,_),(_,_),(_,_),(_,_),(_,_)] rfl ⟨z1 rfl,zp rfl (oF underlying53 rfl sz5),zp rfl (oL underlying5 rfl),zp rfl (op_ix _ _ _ _ _ _ _ _ underlying37 sz3 (by decide) rfl rfl rfl (ix_ok hv11).1 (map_lt (ix_ok hv11).2) rfl),zp rfl (op_load_e _ _ _ _ _ _ underlying3 rfl rfl rfl (map_get hv12)),zp rfl (oB rfl (ibind (f := int .i64) (Option.some.inj hv13))),zp rfl (op_ix _ _ _ _ _ _ _ _ underlying37 sz3 (by decide) rfl rfl rfl (ix_ok hv14).1 (map_lt (ix_ok hv14).2) rfl),zp rfl (op_store_e _ _ _ _ _ _ _ _ sz3 rfl rfl rfl (by decide) (map_lt (ix_ok hv14).2) ((map_set (f := int .i64) _ (ix_ok hv14).2).trans (congrArg (map _) (Option.some.inj hv15)))),zz⟩ ?_
       refine pt_then ?_
       refine ht_exit ?_
       refine pt_x_then ?_
       refine pt_x_in ?_
       exact hl70 _ (zi h).symm
      ·have h := cond_f hb72 h
       refine ht_skip ?_
       refine pt_then (ht_seq ?_)
       obtain ⟨v16, hv16, h⟩ := zn h
       refine zg hn (_::_::_::_::_::_::_::(42,.ptr 7 1)::(43,vi v9.Len)::(44,.tup [vi v16.1,vi v16.2.1,vi v16.2.2.1,vi v16.2.2.2])::(41,.tup [vi v16.1,vi v16.2.1,vi v16.2.2.1,vi v16.2.2.2])::(45,vi v16.1)::(46,vi v16.2.1)::(47,vi v16.2.2.1)::(48,vi v16.2.2.2)::(8,vi v16.1)::(9,vi v16.2.1)::(10,vi v16.2.2.1)::(11,vi v16.2.2.2)::[]) [0,1,2,3,4,5,6] [0,1,2,3,4,5,15] [zq [5] 7 42,zq [7,5] 8 43,zq [8] 9 44,⟨[],[9],[10],[(.slot 41)]⟩,zq [10] 11 45,zq [10] 12 46,zq [10] 13 47,zq [10] 14 48,zq [11] 15 8,zq [12] 16 9,zq [13] 17 10,zq [14] 18 11] [(_,_),(_,_),(_,_),(_,_),(_,_),(_,_),(_,_)] rfl ⟨zp rfl (oF underlying53 rfl sz3),zp rfl (oL underlying3 rfl),zp rfl (op_call _ _ 83 _ _ rfl call83 rfl (ok_sym_Len v9.Len _ hv16) rfl rfl),zp rfl (op_move_take _ _ _ _ rfl),zp rfl (oE rfl),zp rfl (oE rfl),zp rfl (oE rfl),zp rfl (oE rfl),z2 rfl,z2 rfl,z2 rfl,z2 rfl,zz⟩ ?_
       refine pt_then (ht_seq ?_)
       obtain ⟨v17, hv17, h⟩ := zn h
       refine zg hn (_::_::_::_::_::_::_::(50,.ptr 7 2)::(51,vi v9.Dist)::(52,.tup [vi v17.1,vi v17.2.1,vi v17.2.2.1,vi v17.2.2.2])::(49,.tup [vi v17.1,vi v17.2.1,vi v17.2.2.1,vi v17.2.2.2])::(53,vi v17.1)::(54,vi v17.2.1)::(55,vi v17.2.2.1)::(56,vi v17.2.2.2)::(12,vi v17.1)::(13,vi v17.2.1)::(14,vi v17.2.2.1)::(15,vi v17.2.2.2)::[]) [0,1,2,3,4,5,6] [0,1,2,3,4,6,15] [zq [5] 7 50,zq [7,5] 8 51,zq [8] 9 52,⟨[],[9],[10],[(.slot 49)]⟩,zq [10] 11 53,zq [10] 12 54,zq [10] 13 55,zq [10] 14 56,zq [11] 15 12,zq [12] 16 13,zq [13] 17 14,zq [14] 18 15] [(_,_),(_,_),(_,_),(_,_),(_,_),(_,_),(_,_)] rfl ⟨zp rfl (oF underlying53 rfl sz3),zp rfl (oL underlying3 rfl),zp rfl (op_call _ _ 84 _ _ rfl call84 rfl (ok_sym_Dist v9.Dist _ hv17) rfl rfl),zp rfl (op_move_take _ _ _ _ rfl),zp rfl (oE rfl),zp rfl (oE rfl),zp rfl (oE rfl),zp rfl (oE rfl),z2 rfl,z2 rfl,z2 rfl,z2 rfl,zz⟩ ?_
       refine pt_then (ht_seq ?_)
       obtain ⟨v18, hv18, h⟩ := zn h
       obtain ⟨v19, hv19, h⟩ := zn h
       obtain ⟨v20, hv20, h⟩ := zn h
       obtain ⟨v21, hv21, h⟩ := zn h
       obtain ⟨v22, hv22, h⟩ := zn h
       refine zg hn [_,_,_,_,_,_,_,(57,.same (.slot 2)),(58,vi v16.1),(59,.eref (.slot 2) (v18 * 1)),(60,vi v19),(61,vi v20),(62,.eref (.slot 2) (v21 * 1)),(2,.fl (.own 3) 1 (map (int .i64) v22))] [0,1,2,3,4,5,6] [13,1,2,3,4,6] [zq [0] 7 57,zq [5] 8 58,zq [7,0,8] 9 59,zq [9,0] 10 60,zq [10] 11 61,zq [7,0,8] 12 62,⟨[12,11],[0],[13],[]⟩] [(_,_),(_,_),(_,_),(_,_),(_,_),(_,_)] rfl ⟨z1 rfl,z1 rfl,zp rfl (op_ix _ _ _ _ _ _ _ _ underlying37 sz3 (by decide) rfl rfl rfl (ix_ok hv18).1 (map_lt (ix_ok hv18).2) rfl),zp rfl (op_load_e _ _ _ _ _ _ underlying3 rfl rfl rfl (map_get hv19)),zp rfl (oB rfl (ibind (f := int .i64) (Option.some.inj hv20))),zp rfl (op_ix _ _ _ _ _ _ _ _ underlying37 sz3 (by decide) rfl rfl rfl (ix_ok hv21).1 (map_lt (ix_ok hv21).2) rfl),zp rfl (op_store_e _ _ _ _ _ _ _ _ sz3 rfl rfl rfl (by decide) (map_lt (ix_ok hv21).2) ((map_set (f := int .i64) _ (ix_ok hv21).2).trans (congrArg (map _) (Option.some.inj hv22)))),zz⟩ ?_
       refine pt_then ?_
       obtain ⟨v23, hv23, h⟩ := zn h
       obtain ⟨v24, hv24, h⟩ := zn h
       obtain ⟨v25, hv25, h⟩ := zn h
       obtain ⟨v26, hv26, h⟩ := zn h
       obtain ⟨v27, hv27, h⟩ := zn h
       refine zg hn [_,_,_,_,_,_,(63,.same (.slot 3)),(64,vi v17.1),(65,.eref (.slot 3) (v23 * 1)),(66,vi v24),(67,vi v25),(68,.eref (.slot 3) (v26 * 1)),(3,.fl (.own 3) 1 (map (int .i64) v27))] [0,1,2,3,4,5] [0,12,2,3,4] [zq [1] 6 63,zq [5] 7 64,zq [6,1,7] 8 65,zq [8,1] 9 66,zq [9] 10 67,zq [6,1,7] 11 68,⟨[11,10],[1],[12],[]⟩] [(_,_),(_,_),(_,_),(_,_),(_,_)] rfl ⟨z1 rfl,z1 rfl,zp rfl (op_ix _ _ _ _ _ _ _ _ underlying37 sz3 (by decide) rfl rfl rfl (ix_ok hv23).1 (map_lt (ix_ok hv23).2) rfl),zp rfl (op_load_e _ _ _ _ _ _ underlying3 rfl rfl rfl (map_get hv24)),zp rfl (oB rfl (ibind (f := int .i64) (Option.some.inj hv25))),zp rfl (op_ix _ _ _ _ _ _ _ _ underlying37 sz3 (by decide) rfl rfl rfl (ix_ok hv26).1 (map_lt (ix_ok hv26).2) rfl),zp rfl (op_store_e _ _ _ _ _ _ _ _ sz3 rfl rfl rfl (by decide) (map_lt (ix_ok hv26).2) ((map_set (f := int .i64) _ (ix_ok hv26).2).trans (congrArg (map _) (Option.some.inj hv27)))),zz⟩ ?_
       refine pt_inb ?_
       exact hl70 _ (zi h).symm
    ·have h := cond_f hb65 h
     refine ht_exit ?_
     refine pt_x_then ?_
     refine pt_x_then ?_
     refine pt_x_in ?_
     refine pt_pick [0,1] (by kernel_rfl) (es' := [(_,_),(_,_)]) rfl ?_
     exact hl60 _ (ho62 _ (zi h).symm).symm
end Go.Proofs.YtkgfjkfccpjcgaaDoor
