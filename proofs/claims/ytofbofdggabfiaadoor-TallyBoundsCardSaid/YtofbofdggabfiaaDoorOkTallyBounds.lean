/-
  The model's runs are what is told in Lean.
-/
import Derived.Test.YtofbofdggabfiaaDoorProg
import Derived.KernelRfl
import Derived.Test.YtofbofdggabfiaaDoorShelf
import Derived.Test.YtofbofdggabfiaaDoorB3
import Derived.Test.YtofbofdggabfiaaDoorOkc3
set_option linter.unusedVariables false
set_option linter.unusedSimpArgs false
set_option maxHeartbeats 1000000
namespace Go.Proofs.YtofbofdggabfiaaDoor
open Go.Abs Go.Abs.Sh Tryd
open List (map flatten)
open Value (int)

theorem ok_wherrylaw26_TallyBounds (mx : Int) (recs : (List T_Rec)) (p_r : T_Rec) (r : Bool) (h : Sh.wherrylaw26_TallyBounds recs p_r = some r) : FnG Tryd.prog (GL mx) 4 [.fr .shr true 15 (flatten (map T_Rec.ienc recs)), .agg [.v (.int .i64 p_r.Kind), .v (.bool p_r.Mail.From.Null), .v (.string p_r.Mail.From.Local), .v (.string p_r.Mail.From.Domain), .fl .shr 3 (flatten (map T_Path.enc p_r.Mail.To)), .fl .shr 1 (map (int .u8) p_r.Mail.Body), .v (.bool p_r.Mail.Quiet), .v (.string p_r.Mail.Helo), .v (.int .i64 p_r.Mail.At), .v (.int .i64 p_r.Id), .fl .shr 1 (map (int .i64) p_r.Ids), .v (.int .i64 p_r.Origin), .v (.int .i64 p_r.Number), .v (.int .i64 p_r.Offset), .fl .shr 1 (map (int .u8) p_r.Data)]] (.v (.bool r)) := by
  unfold Sh.wherrylaw26_TallyBounds at h
  refine fn_okG func4 rfl (zl rfl) rfl rfl fun g0 hn hio => ?_
  refine zgg hn [_,_,_,(3,.box 39 (T_Rec.c p_r [])),(4,vb false)] [0,1,2] [0,2,3] [zq [1] 3 3,zq [] 4 4] [(_,_),(_,_),(_,_)] rfl ⟨zp rfl (op_box _ _ _ _ rfl rfl rfl),z2 rfl,zz⟩ ?_
  refine ht_seq ?_
  refine ht_seq ?_
  refine ht_joinS h (fun (s3 : Bool) => [(0,.fr .shr true 15 (flatten (map T_Rec.ienc recs))),(132,.glob (GL mx)),(3,.box 39 (T_Rec.c p_r [])),(19,vb s3)]) ?_ ?_
  ·rintro s3 h
   refine pt_then ?_
   refine ht_cond _ rfl (fun hb7 => ?_) (fun hb7 => ?_)
   ·have h := cond_t hb7 h
    refine zgg hn [_,_,_,_,(4,vb true)] [0,1,2,3] [1,4] [zq [] 4 4] [(_,_),(_,_)] rfl ⟨z2 rfl,zz⟩ ?_
    refine ht_ret ?_
    refine pt_pick [1] (by kernel_rfl) (es' := [(_,_)]) rfl ?_
    refine pt_r_then ?_
    obtain rfl := zi h
    exact pt_ret hio rfl (.tmp _ _ .nil) rfl rfl
   ·have h := cond_f hb7 h
    refine ht_skip ?_
    refine pt_then (ht_seq ?_)
    obtain ⟨v8, hv8, h⟩ := zn h
    refine zg hn [_,_,_,_,(21,.fr .shr true 15 (flatten (map T_Rec.ienc recs))),(22,.tup [.agg [.fr (.own 75) false 11 (flatten (map T_Item.ienc v8.1.Items)),vi v8.1.Packs,.fl (.own 3) 1 (map (int .i64) v8.1.Sent),.fl (.own 5) 1 (map (int .u8) v8.1.Part),vi v8.1.Of,.fl (.own 3) 1 (map (int .i64) v8.1.Done)],vi v8.2]),(20,.tup [.agg [.fr (.own 75) false 11 (flatten (map T_Item.ienc v8.1.Items)),vi v8.1.Packs,.fl (.own 3) 1 (map (int .i64) v8.1.Sent),.fl (.own 5) 1 (map (int .u8) v8.1.Part),vi v8.1.Of,.fl (.own 3) 1 (map (int .i64) v8.1.Done)],vi v8.2]),(23,.agg [.fr (.own 75) false 11 (flatten (map T_Item.ienc v8.1.Items)),vi v8.1.Packs,.fl (.own 3) 1 (map (int .i64) v8.1.Sent),.fl (.own 5) 1 (map (int .u8) v8.1.Part),vi v8.1.Of,.fl (.own 3) 1 (map (int .i64) v8.1.Done)]),(20,.tup [.any,vi v8.2]),(24,vi v8.2),(5,.box 43 [vz,vi 0,vz,vz,vi 0,vz]),(5,.box 43 [.fr (.own 75) false 11 (flatten (map T_Item.ienc v8.1.Items)),vi v8.1.Packs,.fl (.own 3) 1 (map (int .i64) v8.1.Sent),.fl (.own 5) 1 (map (int .u8) v8.1.Part),vi v8.1.Of,.fl (.own 3) 1 (map (int .i64) v8.1.Done)]),(6,vi v8.2)] [0,1,2,3] [1,2,11] [zq [0] 4 21,zq [4] 5 22,⟨[],[5],[6],[(.slot 20)]⟩,⟨[],[6],[8,7],[(.slot 23)]⟩,zq [8] 9 24,zq [] 10 5,⟨[],[7,10],[11],[.cell 5 0,.cell 5 1,.cell 5 2,.cell 5 3,.cell 5 4,.cell 5 5]⟩,zq [9] 12 6] [(_,_),(_,_),(_,_)] rfl ⟨z1 rfl,zp rfl (op_call _ _ 14 _ _ rfl call14 rfl (ok_wherryref18_Fold recs _ hv8) rfl rfl),zp rfl (op_move_take _ _ _ _ rfl),zp rfl (op_extract_take _ _ _ _ _ rfl (zl rfl) rfl rfl (by decide) rfl),zp rfl (oE rfl),zp rfl (op_alloc _ _ zr43),zp rfl (op_store_take _ _ _ _ _ _ _ _ sz43 rfl rfl rfl (zl rfl) rfl rfl),z2 rfl,zz⟩ ?_
    refine pt_then (ht_seq ?_)
    obtain ⟨v9, hv9, h⟩ := zn h
    refine zg hn [_,_,_,(26,.agg [.same (.cell 5 0),vi v8.1.Packs,.same (.cell 5 2),.same (.cell 5 3),vi v8.1.Of,.same (.cell 5 5)]),(27,.agg (T_Rec.c p_r [])),(28,.tup [.agg [.fr (.own 75) false 11 (flatten (map T_Item.ienc v9.1.Items)),vi v9.1.Packs,.fl (.own 3) 1 (map (int .i64) v9.1.Sent),.fl (.own 5) 1 (map (int .u8) v9.1.Part),vi v9.1.Of,.fl (.own 3) 1 (map (int .i64) v9.1.Done)],vi v9.2]),(25,.tup [.agg [.fr (.own 75) false 11 (flatten (map T_Item.ienc v9.1.Items)),vi v9.1.Packs,.fl (.own 3) 1 (map (int .i64) v9.1.Sent),.fl (.own 5) 1 (map (int .u8) v9.1.Part),vi v9.1.Of,.fl (.own 3) 1 (map (int .i64) v9.1.Done)],vi v9.2]),(29,.agg [.fr (.own 75) false 11 (flatten (map T_Item.ienc v9.1.Items)),vi v9.1.Packs,.fl (.own 3) 1 (map (int .i64) v9.1.Sent),.fl (.own 5) 1 (map (int .u8) v9.1.Part),vi v9.1.Of,.fl (.own 3) 1 (map (int .i64) v9.1.Done)]),(25,.tup [.any,vi v9.2]),(30,vi v9.2),(7,.box 43 [vz,vi 0,vz,vz,vi 0,vz]),(7,.box 43 [.fr (.own 75) false 11 (flatten (map T_Item.ienc v9.1.Items)),vi v9.1.Packs,.fl (.own 3) 1 (map (int .i64) v9.1.Sent),.fl (.own 5) 1 (map (int .u8) v9.1.Part),vi v9.1.Of,.fl (.own 3) 1 (map (int .i64) v9.1.Done)]),(8,vi v9.2)] [0,1,2] [0,1,2,11,12] [zq [2] 3 26,zq [1] 4 27,zq [3,2,4] 5 28,⟨[],[5],[6],[(.slot 25)]⟩,⟨[],[6],[8,7],[(.slot 29)]⟩,zq [8] 9 30,zq [] 10 7,⟨[],[7,10],[11],[.cell 7 0,.cell 7 1,.cell 7 2,.cell 7 3,.cell 7 4,.cell 7 5]⟩,zq [9] 12 8] [(_,_),(_,_),(_,_),(_,_),(_,_)] rfl ⟨zp rfl (op_loadA _ _ _ _ _ _ _ underlying43 rfl sz43 rfl rfl (zl rfl) rfl rfl),zp rfl (op_loadA _ _ _ _ _ _ _ underlying39 rfl sz39 rfl rfl (zl rfl) rfl rfl),zp rfl (op_call _ _ 15 _ _ rfl call15 rfl (ok_wherryref18_Add v8.1 ((T_Rec.mk p_r.Kind ((T_Mail.mk (T_Path.mk p_r.Mail.From.Null p_r.Mail.From.Local p_r.Mail.From.Domain) p_r.Mail.To p_r.Mail.Body p_r.Mail.Quiet p_r.Mail.Helo p_r.Mail.At)) p_r.Id p_r.Ids p_r.Origin p_r.Number p_r.Offset p_r.Data)) _ hv9) rfl rfl),zp rfl (op_move_take _ _ _ _ rfl),zp rfl (op_extract_take _ _ _ _ _ rfl (zl rfl) rfl rfl (by decide) rfl),zp rfl (oE rfl),zp rfl (op_alloc _ _ zr43),zp rfl (op_store_take _ _ _ _ _ _ _ _ sz43 rfl rfl rfl (zl rfl) rfl rfl),z2 rfl,zz⟩ ?_
    refine pt_then (ht_seq ?_)
    obtain ⟨v10, hv10, h⟩ := zn h
    obtain ⟨v11, hv11, h⟩ := zn h
    refine ht_anyR (by kernel_rfl) hn (El := [_,_,_,_,_,(31,.agg [.same (.cell 5 0),vi v8.1.Packs,.same (.cell 5 2),.same (.cell 5 3),vi v8.1.Of,.same (.cell 5 5)]),(32,vi v10),(33,.agg [.same (.cell 5 0),vi v8.1.Packs,.same (.cell 5 2),.same (.cell 5 3),vi v8.1.Of,.same (.cell 5 5)]),(34,vi v11),(9,vi v10),(10,vi v11)]) (init := [0,1,2,3,4]) (fin := [0,1,2,3,4,9,10]) (sps := [zq [2] 5 31,zq [5,2] 6 32,zq [2] 7 33,zq [7,2] 8 34,zq [6] 9 9,zq [8] 10 10]) (es' := [(_,_),(_,_),(_,_),(_,_),(_,_),(9,vi v10),(10,vi v11)]) (by kernel_rfl) rfl rfl ⟨zp rfl (op_loadA _ _ _ _ _ _ _ underlying43 rfl sz43 rfl rfl (zl rfl) rfl rfl),zp rfl (op_call _ _ 16 _ _ rfl call16 rfl (ok_tally_Bound v8.1 _ hv10) rfl rfl),zp rfl (op_loadA _ _ _ _ _ _ _ underlying43 rfl sz43 rfl rfl (zl rfl) rfl rfl),zp rfl (op_call _ _ 17 _ _ rfl call17 rfl (ok_tally_Waits v8.1 _ hv11) rfl rfl),z2 rfl,z2 rfl,zz⟩ ?_
    refine pt_then (ht_seq ?_)
    refine ht_seq ?_
    refine ht_joinS h (fun (s14 : Bool) => [(132,.glob (GL mx)),(3,.box 39 (T_Rec.c p_r [])),(7,.box 43 [.fr (.own 75) false 11 (flatten (map T_Item.ienc v9.1.Items)),vi v9.1.Packs,.fl (.own 3) 1 (map (int .i64) v9.1.Sent),.fl (.own 5) 1 (map (int .u8) v9.1.Part),vi v9.1.Of,.fl (.own 3) 1 (map (int .i64) v9.1.Done)]),(8,vi v9.2),(9,vi v10),(10,vi v11),(50,vb s14)]) ?_ ?_
    ·rintro s14 h
     refine pt_then ?_
     refine ht_cond _ rfl (fun hb18 => ?_) (fun hb18 => ?_)
     ·have h := cond_t hb18 h
      refine zgg hn [_,_,_,_,_,_,_,(4,vb false)] [0,1,2,3,4,5,6] [0,7] [zq [] 7 4] [(_,_),(_,_)] rfl ⟨z2 rfl,zz⟩ ?_
      refine ht_ret ?_
      refine pt_pick [1] (by kernel_rfl) (es' := [(_,_)]) rfl ?_
      refine pt_r_then ?_
      obtain rfl := zi h
      exact pt_ret hio rfl (.tmp _ _ .nil) rfl rfl
     ·have h := cond_f hb18 h
      refine ht_skip ?_
      refine pt_then (ht_seq ?_)
      refine zgg hn [_,_,_,_,_,_,_,(51,vi v9.2),(52,vb (v9.2 != 0))] [0,1,2,3,4,5,6] [0,1,2,4,5,8] [zq [3] 7 51,zq [7] 8 52] [(_,_),(_,_),(_,_),(_,_),(_,_),(_,_)] rfl ⟨z1 rfl,z4 rfl rfl,zz⟩ ?_
      refine ht_cond _ rfl (fun hb19 => ?_) (fun hb19 => ?_)
      ·have h := cond_t hb19 h
       refine ht_seq ?_
       obtain ⟨v20, hv20, h⟩ := zn h
       refine zg hn [_,_,_,_,_,_,(53,vb v20),(4,vb v20)] [0,1,2,3,4,5] [0,7] [zq [0] 6 53,zq [6] 7 4] [(_,_),(_,_)] rfl ⟨zp rfl (op_callG _ _ 132 12 _ _ rfl call12 rfl rfl (fun _ h => h) (ok_wherrylaw26_wakes mx  _ hv20) rfl rfl),z2 rfl,zz⟩ ?_
       refine pt_then (ht_ret ?_)
       refine pt_pick [1] (by kernel_rfl) (es' := [(_,_)]) rfl ?_
       refine pt_r_then ?_
       obtain rfl := zi h
       exact pt_ret hio rfl (.tmp _ _ .nil) rfl rfl
      ·have h := cond_f hb19 h
       refine ht_skip ?_
       refine pt_then (ht_seq ?_)
       obtain ⟨v21, hv21, h⟩ := zn h
       obtain ⟨v22, hv22, h⟩ := zn h
       refine ht_anyR (by kernel_rfl) hn (El := [_,_,_,_,_,_,(54,.agg [.same (.cell 7 0),vi v9.1.Packs,.same (.cell 7 2),.same (.cell 7 3),vi v9.1.Of,.same (.cell 7 5)]),(55,vi v21),(56,.agg [.same (.cell 7 0),vi v9.1.Packs,.same (.cell 7 2),.same (.cell 7 3),vi v9.1.Of,.same (.cell 7 5)]),(57,vi v22),(11,vi v21),(12,vi v22)]) (init := [0,1,2,3,4,5]) (fin := [0,1,3,4,10,11]) (sps := [zq [2] 6 54,zq [6,2] 7 55,zq [2] 8 56,zq [8,2] 9 57,zq [7] 10 11,zq [9] 11 12]) (es' := [(_,_),(_,_),(_,_),(_,_),(11,vi v21),(12,vi v22)]) (by kernel_rfl) rfl rfl ⟨zp rfl (op_loadA _ _ _ _ _ _ _ underlying43 rfl sz43 rfl rfl (zl rfl) rfl rfl),zp rfl (op_call _ _ 16 _ _ rfl call16 rfl (ok_tally_Bound v9.1 _ hv21) rfl rfl),zp rfl (op_loadA _ _ _ _ _ _ _ underlying43 rfl sz43 rfl rfl (zl rfl) rfl rfl),zp rfl (op_call _ _ 17 _ _ rfl call17 rfl (ok_tally_Waits v9.1 _ hv22) rfl rfl),z2 rfl,z2 rfl,zz⟩ ?_
       refine pt_then (ht_seq ?_)
       refine zgg hn [_,_,_,_,_,_,(58,.ptr 3 0),(59,vi p_r.Kind)] [0,1,2,3,4,5] [0,1,2,3,4,5,7] [zq [1] 6 58,zq [6,1] 7 59] [(_,_),(_,_),(_,_),(_,_),(_,_),(_,_),(_,_)] rfl ⟨zp rfl (oF underlying39 rfl sz3),zp rfl (oL underlying3 rfl),zz⟩ ?_
       refine ht_block ?_
       refine zgg hn [_,_,_,_,_,_,_,(61,vb (p_r.Kind == 1)),(60,vb (p_r.Kind == 1))] [0,1,2,3,4,5,6] [0,1,2,3,4,5,6,8] [zq [6] 7 61,zq [7] 8 60] [(_,_),(_,_),(_,_),(_,_),(_,_),(_,_),(_,_),(_,_)] rfl ⟨z4 rfl rfl,z2 rfl,zz⟩ ?_
       refine ht_cond _ rfl (fun hb23 => ?_) (fun hb23 => ?_)
       ·have h := cond_t hb23 h
        refine ht_seq ?_
        refine ht_joinS h (fun (s27 : Bool) => [(132,.glob (GL mx)),(4,vb s27)]) ?_ ?_
        ·rintro s27 h
         refine pt_then (ht_ret ?_)
         refine pt_pick [1] (by kernel_rfl) (es' := [(_,_)]) rfl ?_
         refine pt_r_in ?_
         refine pt_r_then ?_
         obtain rfl := zi h
         exact pt_ret hio rfl (.tmp _ _ .nil) rfl rfl
        ·intro u28 h hl29 hr30
         obtain ⟨v24, hv24, h⟩ := zn h
         refine cond_some h (fun hg13_6 h => ?_) (fun hg13_6 h => ?_)
         ·obtain ⟨v25, hv25, h⟩ := zn h
          refine cond_some h (fun hg13_15 h => ?_) (fun hg13_15 h => ?_)
          ·refine cond_some h (fun hg13_20 h => ?_) (fun hg13_20 h => ?_)
           ·obtain ⟨v26, hv26, h⟩ := zn h
            refine zg hn (_::_::_::_::_::_::_::_::(62,vi v22)::(63,vi v11)::(64,vi v24)::(65,.ptr 3 11)::(66,vi p_r.Origin)::(67,vb (v24 == p_r.Origin))::(68,vb true)::(69,vi v21)::(70,vi v10)::(71,vb (decide (v10 < v21)))::(72,.ptr 3 11)::(73,vi p_r.Origin)::(74,vb (p_r.Origin == 1))::(75,vb (((decide (v10 < v21))) == (p_r.Origin == 1)))::(76,vb (((decide (v10 < v21))) == (p_r.Origin == 1)))::(77,vb true)::(78,vi v21)::(79,vi v10)::(80,vb (decide (v10 ≤ v21)))::(81,vb (decide (v10 ≤ v21)))::(82,vb true)::(83,vb v26)::(84,vb v26)::(4,vb v26)::[]) [0,1,2,3,4,5,6,7] [0,31] (zq [5] 8 62::zq [3] 9 63::zq [8,9] 10 64::zq [1] 11 65::zq [11,1] 12 66::zq [10,12] 13 67::zq [13] 14 68::zq [14,4] 15 69::zq [14,2] 16 70::zq [14,15,16] 17 71::zq [14,1] 18 72::zq [14,18,1] 19 73::zq [14,19] 20 74::zq [14,17,20] 21 75::zq [14,21] 22 76::zq [22] 23 77::zq [23,4] 24 78::zq [23,2] 25 79::zq [23,24,25] 26 80::zq [23,26] 27 81::zq [27] 28 82::zq [28,0] 29 83::zq [28,29] 30 84::zq [30] 31 4::[]) [(_,_),(_,_)] rfl ⟨z1 rfl,z1 rfl,zp rfl (oB rfl (ibind (f := int .i64) (Option.some.inj hv24))),zp rfl (oF underlying39 rfl sz3),zp rfl (oL underlying3 rfl),z4 rfl rfl,z8 hg13_6 rfl,zr' rfl (oM rfl),zr' rfl (oM rfl),zr' rfl (oB rfl rfl),zr' rfl (oF underlying39 rfl sz3),zr' rfl (oL underlying3 rfl),zr' rfl (oB rfl rfl),zr' rfl (op_beq _ _ _ _ underlying4 rfl rfl),z3 true rfl,z8 hg13_15 rfl,zr' rfl (oM rfl),zr' rfl (oM rfl),zr' rfl (oB rfl rfl),z3 true rfl,z8 hg13_20 rfl,zr' rfl (op_callG _ _ 132 12 _ _ rfl call12 rfl rfl (fun _ h => h) (ok_wherrylaw26_wakes mx  _ hv26) rfl rfl),z3 true rfl,z2 rfl,zz⟩ ?_
            exact hl29 _ (zi h).symm
           ·refine zg hn (_::_::_::_::_::_::_::_::(62,vi v22)::(63,vi v11)::(64,vi v24)::(65,.ptr 3 11)::(66,vi p_r.Origin)::(67,vb (v24 == p_r.Origin))::(68,vb true)::(69,vi v21)::(70,vi v10)::(71,vb (decide (v10 < v21)))::(72,.ptr 3 11)::(73,vi p_r.Origin)::(74,vb (p_r.Origin == 1))::(75,vb (((decide (v10 < v21))) == (p_r.Origin == 1)))::(76,vb (((decide (v10 < v21))) == (p_r.Origin == 1)))::(77,vb true)::(78,vi v21)::(79,vi v10)::(80,vb (decide (v10 ≤ v21)))::(81,vb (decide (v10 ≤ v21)))::(82,vb false)::(83,.v undef)::(84,vb false)::(4,vb false)::[]) [0,1,2,3,4,5,6,7] [0,31] (zq [5] 8 62::zq [3] 9 63::zq [8,9] 10 64::zq [1] 11 65::zq [11,1] 12 66::zq [10,12] 13 67::zq [13] 14 68::zq [14,4] 15 69::zq [14,2] 16 70::zq [14,15,16] 17 71::zq [14,1] 18 72::zq [14,18,1] 19 73::zq [14,19] 20 74::zq [14,17,20] 21 75::zq [14,21] 22 76::zq [22] 23 77::zq [23,4] 24 78::zq [23,2] 25 79::zq [23,24,25] 26 80::zq [23,26] 27 81::zq [27] 28 82::zq [28] 29 83::zq [28] 30 84::zq [30] 31 4::[]) [(_,_),(_,_)] rfl ⟨z1 rfl,z1 rfl,zp rfl (oB rfl (ibind (f := int .i64) (Option.some.inj hv24))),zp rfl (oF underlying39 rfl sz3),zp rfl (oL underlying3 rfl),z4 rfl rfl,z8 hg13_6 rfl,zr' rfl (oM rfl),zr' rfl (oM rfl),zr' rfl (oB rfl rfl),zr' rfl (oF underlying39 rfl sz3),zr' rfl (oL underlying3 rfl),zr' rfl (oB rfl rfl),zr' rfl (op_beq _ _ _ _ underlying4 rfl rfl),z3 true rfl,z8 hg13_15 rfl,zr' rfl (oM rfl),zr' rfl (oM rfl),zr' rfl (oB rfl rfl),z3 true rfl,z8 hg13_20 rfl,zt rfl,z3 false rfl,z2 rfl,zz⟩ ?_
            exact hl29 _ (zi h).symm
          ·refine zg hn (_::_::_::_::_::_::_::_::(62,vi v22)::(63,vi v11)::(64,vi v24)::(65,.ptr 3 11)::(66,vi p_r.Origin)::(67,vb (v24 == p_r.Origin))::(68,vb true)::(69,vi v21)::(70,vi v10)::(71,vb (decide (v10 < v21)))::(72,.ptr 3 11)::(73,vi p_r.Origin)::(74,vb (p_r.Origin == 1))::(75,vb (((decide (v10 < v21))) == (p_r.Origin == 1)))::(76,vb (((decide (v10 < v21))) == (p_r.Origin == 1)))::(77,vb false)::(78,.v undef)::(79,.v undef)::(80,.v undef)::(81,vb false)::(82,vb false)::(83,.v undef)::(84,vb false)::(4,vb false)::[]) [0,1,2,3,4,5,6,7] [0,31] (zq [5] 8 62::zq [3] 9 63::zq [8,9] 10 64::zq [1] 11 65::zq [11,1] 12 66::zq [10,12] 13 67::zq [13] 14 68::zq [14,4] 15 69::zq [14,2] 16 70::zq [14,15,16] 17 71::zq [14,1] 18 72::zq [14,18,1] 19 73::zq [14,19] 20 74::zq [14,17,20] 21 75::zq [14,21] 22 76::zq [22] 23 77::zq [23] 24 78::zq [23] 25 79::zq [23] 26 80::zq [23] 27 81::zq [27] 28 82::zq [28] 29 83::zq [28] 30 84::zq [30] 31 4::[]) [(_,_),(_,_)] rfl ⟨z1 rfl,z1 rfl,zp rfl (oB rfl (ibind (f := int .i64) (Option.some.inj hv24))),zp rfl (oF underlying39 rfl sz3),zp rfl (oL underlying3 rfl),z4 rfl rfl,z8 hg13_6 rfl,zr' rfl (oM rfl),zr' rfl (oM rfl),zr' rfl (oB rfl rfl),zr' rfl (oF underlying39 rfl sz3),zr' rfl (oL underlying3 rfl),zr' rfl (oB rfl rfl),zr' rfl (op_beq _ _ _ _ underlying4 rfl rfl),z3 true rfl,z8 hg13_15 rfl,zt rfl,zt rfl,zt rfl,z3 false rfl,z1 rfl,zt rfl,z3 false rfl,z2 rfl,zz⟩ ?_
           exact hl29 _ (zi h).symm
         ·refine zg hn (_::_::_::_::_::_::_::_::(62,vi v22)::(63,vi v11)::(64,vi v24)::(65,.ptr 3 11)::(66,vi p_r.Origin)::(67,vb (v24 == p_r.Origin))::(68,vb false)::(69,.v undef)::(70,.v undef)::(71,.v undef)::(72,.v undef)::(73,.v undef)::(74,.v undef)::(75,.v undef)::(76,vb false)::(77,vb false)::(78,.v undef)::(79,.v undef)::(80,.v undef)::(81,vb false)::(82,vb false)::(83,.v undef)::(84,vb false)::(4,vb false)::[]) [0,1,2,3,4,5,6,7] [0,31] (zq [5] 8 62::zq [3] 9 63::zq [8,9] 10 64::zq [1] 11 65::zq [11,1] 12 66::zq [10,12] 13 67::zq [13] 14 68::zq [14] 15 69::zq [14] 16 70::zq [14] 17 71::zq [14] 18 72::zq [14] 19 73::zq [14] 20 74::zq [14] 21 75::zq [14] 22 76::zq [22] 23 77::zq [23] 24 78::zq [23] 25 79::zq [23] 26 80::zq [23] 27 81::zq [27] 28 82::zq [28] 29 83::zq [28] 30 84::zq [30] 31 4::[]) [(_,_),(_,_)] rfl ⟨z1 rfl,z1 rfl,zp rfl (oB rfl (ibind (f := int .i64) (Option.some.inj hv24))),zp rfl (oF underlying39 rfl sz3),zp rfl (oL underlying3 rfl),z4 rfl rfl,z8 hg13_6 rfl,zt rfl,zt rfl,zt rfl,zt rfl,zt rfl,zt rfl,zt rfl,z3 false rfl,z1 rfl,zt rfl,zt rfl,zt rfl,z3 false rfl,z1 rfl,zt rfl,z3 false rfl,z2 rfl,zz⟩ ?_
          exact hl29 _ (zi h).symm
       ·have h := cond_f hb23 h
        refine zgg hn [_,_,_,_,_,_,_,_,(86,vb (p_r.Kind == 4)),(85,vb (p_r.Kind == 4))] [0,1,2,3,4,5,6,7] [0,2,3,4,5,6,9] [zq [6] 8 86,zq [8] 9 85] [(_,_),(_,_),(_,_),(_,_),(_,_),(_,_),(_,_)] rfl ⟨z4 rfl rfl,z2 rfl,zz⟩ ?_
        refine ht_cond _ rfl (fun hb31 => ?_) (fun hb31 => ?_)
        ·have h := cond_t hb31 h
         refine ht_seq ?_
         refine ht_joinS h (fun (s34 : Bool) => [(132,.glob (GL mx)),(4,vb s34)]) ?_ ?_
         ·rintro s34 h
          refine pt_then (ht_ret ?_)
          refine pt_pick [1] (by kernel_rfl) (es' := [(_,_)]) rfl ?_
          refine pt_r_in ?_
          refine pt_r_then ?_
          obtain rfl := zi h
          exact pt_ret hio rfl (.tmp _ _ .nil) rfl rfl
         ·intro u35 h hl36 hr37
          obtain ⟨v32, hv32, h⟩ := zn h
          refine cond_some h (fun hg15_4 h => ?_) (fun hg15_4 h => ?_)
          ·refine cond_some h (fun hg15_9 h => ?_) (fun hg15_9 h => ?_)
           ·obtain ⟨v33, hv33, h⟩ := zn h
            refine zg hn (_::_::_::_::_::_::_::(87,vi v22)::(88,vi v11)::(89,vi v32)::(90,vb (v22 == v32))::(91,vb true)::(92,vi v21)::(93,vi v10)::(94,vb (decide (v21 < v10)))::(95,vb (decide (v21 < v10)))::(96,vb true)::(97,vb v33)::(98,vb v33)::(4,vb v33)::[]) [0,1,2,3,4,5,6] [0,19] [zq [4] 7 87,zq [2] 8 88,zq [8] 9 89,zq [7,9] 10 90,zq [10] 11 91,zq [11,3] 12 92,zq [11,1] 13 93,zq [11,12,13] 14 94,zq [11,14] 15 95,zq [15] 16 96,zq [16,0] 17 97,zq [16,17] 18 98,zq [18] 19 4] [(_,_),(_,_)] rfl ⟨z1 rfl,z1 rfl,zp rfl (oB rfl (ibind (f := int .i64) (Option.some.inj hv32))),z4 rfl rfl,z8 hg15_4 rfl,zr' rfl (oM rfl),zr' rfl (oM rfl),zr' rfl (oB rfl rfl),z3 true rfl,z8 hg15_9 rfl,zr' rfl (op_callG _ _ 132 12 _ _ rfl call12 rfl rfl (fun _ h => h) (ok_wherrylaw26_wakes mx  _ hv33) rfl rfl),z3 true rfl,z2 rfl,zz⟩ ?_
            exact hl36 _ (zi h).symm
           ·refine zg hn (_::_::_::_::_::_::_::(87,vi v22)::(88,vi v11)::(89,vi v32)::(90,vb (v22 == v32))::(91,vb true)::(92,vi v21)::(93,vi v10)::(94,vb (decide (v21 < v10)))::(95,vb (decide (v21 < v10)))::(96,vb false)::(97,.v undef)::(98,vb false)::(4,vb false)::[]) [0,1,2,3,4,5,6] [0,19] [zq [4] 7 87,zq [2] 8 88,zq [8] 9 89,zq [7,9] 10 90,zq [10] 11 91,zq [11,3] 12 92,zq [11,1] 13 93,zq [11,12,13] 14 94,zq [11,14] 15 95,zq [15] 16 96,zq [16] 17 97,zq [16] 18 98,zq [18] 19 4] [(_,_),(_,_)] rfl ⟨z1 rfl,z1 rfl,zp rfl (oB rfl (ibind (f := int .i64) (Option.some.inj hv32))),z4 rfl rfl,z8 hg15_4 rfl,zr' rfl (oM rfl),zr' rfl (oM rfl),zr' rfl (oB rfl rfl),z3 true rfl,z8 hg15_9 rfl,zt rfl,z3 false rfl,z2 rfl,zz⟩ ?_
            exact hl36 _ (zi h).symm
          ·refine zg hn (_::_::_::_::_::_::_::(87,vi v22)::(88,vi v11)::(89,vi v32)::(90,vb (v22 == v32))::(91,vb false)::(92,.v undef)::(93,.v undef)::(94,.v undef)::(95,vb false)::(96,vb false)::(97,.v undef)::(98,vb false)::(4,vb false)::[]) [0,1,2,3,4,5,6] [0,19] [zq [4] 7 87,zq [2] 8 88,zq [8] 9 89,zq [7,9] 10 90,zq [10] 11 91,zq [11] 12 92,zq [11] 13 93,zq [11] 14 94,zq [11] 15 95,zq [15] 16 96,zq [16] 17 97,zq [16] 18 98,zq [18] 19 4] [(_,_),(_,_)] rfl ⟨z1 rfl,z1 rfl,zp rfl (oB rfl (ibind (f := int .i64) (Option.some.inj hv32))),z4 rfl rfl,z8 hg15_4 rfl,zt rfl,zt rfl,zt rfl,z3 false rfl,z1 rfl,zt rfl,z3 false rfl,z2 rfl,zz⟩ ?_
           exact hl36 _ (zi h).symm
        ·have h := cond_f hb31 h
         refine zgg hn [_,_,_,_,_,_,_,(100,vb (p_r.Kind == 3)),(99,vb (p_r.Kind == 3))] [0,1,2,3,4,5,6] [0,1,2,3,4,8] [zq [5] 7 100,zq [7] 8 99] [(_,_),(_,_),(_,_),(_,_),(_,_),(_,_)] rfl ⟨z4 rfl rfl,z2 rfl,zz⟩ ?_
         refine ht_cond _ rfl (fun hb38 => ?_) (fun hb38 => ?_)
         ·have h := cond_t hb38 h
          refine ht_seq ?_
          refine ht_joinS h (fun (s41 : Bool) => [(132,.glob (GL mx)),(4,vb s41)]) ?_ ?_
          ·rintro s41 h
           refine pt_then (ht_ret ?_)
           refine pt_pick [1] (by kernel_rfl) (es' := [(_,_)]) rfl ?_
           refine pt_r_in ?_
           refine pt_r_then ?_
           obtain rfl := zi h
           exact pt_ret hio rfl (.tmp _ _ .nil) rfl rfl
          ·intro u42 h hl43 hr44
           refine cond_some h (fun hg17_3 h => ?_) (fun hg17_3 h => ?_)
           ·refine cond_some h (fun hg17_8 h => ?_) (fun hg17_8 h => ?_)
            ·obtain ⟨v39, hv39, h⟩ := zn h
             refine cond_some h (fun hg17_17 h => ?_) (fun hg17_17 h => ?_)
             ·obtain ⟨v40, hv40, h⟩ := zn h
              refine zg hn (_::_::_::_::_::_::(101,vi v22)::(102,vi v11)::(103,vb (decide (v22 ≤ v11)))::(104,vb true)::(105,vi v21)::(106,vi v10)::(107,vb (decide (v21 ≤ v10)))::(108,vb (decide (v21 ≤ v10)))::(109,vb true)::(110,vi v22)::(111,vi v11)::(112,vb (decide (v22 < v11)))::(113,vi v21)::(114,vi v10)::(115,vb (decide (v21 < v10)))::(116,vb (((decide (v22 < v11))) == ((decide (v21 < v10)))))::(117,vb (((decide (v22 < v11))) == ((decide (v21 < v10)))))::(118,vb true)::(119,vb v40)::(120,vb v40)::(4,vb v40)::[]) [0,1,2,3,4,5] [0,26] (zq [4] 6 101::zq [2] 7 102::zq [6,7] 8 103::zq [8] 9 104::zq [9,3] 10 105::zq [9,1] 11 106::zq [9,10,11] 12 107::zq [9,12] 13 108::zq [13] 14 109::zq [14,4] 15 110::zq [14,2] 16 111::zq [14,15,16] 17 112::zq [14,3] 18 113::zq [14,1] 19 114::zq [14,18,19] 20 115::zq [14,17,20] 21 116::zq [14,21] 22 117::zq [22] 23 118::zq [23,0] 24 119::zq [23,24] 25 120::zq [25] 26 4::[]) [(_,_),(_,_)] rfl ⟨z1 rfl,z1 rfl,z4 rfl rfl,z8 hg17_3 rfl,zr' rfl (oM rfl),zr' rfl (oM rfl),zr' rfl (oB rfl rfl),z3 true rfl,z8 hg17_8 rfl,zr' rfl (oM rfl),zr' rfl (oM rfl),zr' rfl (oB rfl rfl),zr' rfl (oM rfl),zr' rfl (oM rfl),zr' rfl (oB rfl rfl),zr' rfl (op_beq _ _ _ _ underlying4 rfl rfl),z3 true rfl,z8 hg17_17 rfl,zr' rfl (op_callG _ _ 132 12 _ _ rfl call12 rfl rfl (fun _ h => h) (ok_wherrylaw26_wakes mx  _ hv40) rfl rfl),z3 true rfl,z2 rfl,zz⟩ ?_
              exact hl43 _ (zi h).symm
             ·refine zg hn (_::_::_::_::_::_::(101,vi v22)::(102,vi v11)::(103,vb (decide (v22 ≤ v11)))::(104,vb true)::(105,vi v21)::(106,vi v10)::(107,vb (decide (v21 ≤ v10)))::(108,vb (decide (v21 ≤ v10)))::(109,vb true)::(110,vi v22)::(111,vi v11)::(112,vb (decide (v22 < v11)))::(113,vi v21)::(114,vi v10)::(115,vb (decide (v21 < v10)))::(116,vb (((decide (v22 < v11))) == ((decide (v21 < v10)))))::(117,vb (((decide (v22 < v11))) == ((decide (v21 < v10)))))::(118,vb false)::(119,.v undef)::(120,vb false)::(4,vb false)::[]) [0,1,2,3,4,5] [0,26] (zq [4] 6 101::zq [2] 7 102::zq [6,7] 8 103::zq [8] 9 104::zq [9,3] 10 105::zq [9,1] 11 106::zq [9,10,11] 12 107::zq [9,12] 13 108::zq [13] 14 109::zq [14,4] 15 110::zq [14,2] 16 111::zq [14,15,16] 17 112::zq [14,3] 18 113::zq [14,1] 19 114::zq [14,18,19] 20 115::zq [14,17,20] 21 116::zq [14,21] 22 117::zq [22] 23 118::zq [23] 24 119::zq [23] 25 120::zq [25] 26 4::[]) [(_,_),(_,_)] rfl ⟨z1 rfl,z1 rfl,z4 rfl rfl,z8 hg17_3 rfl,zr' rfl (oM rfl),zr' rfl (oM rfl),zr' rfl (oB rfl rfl),z3 true rfl,z8 hg17_8 rfl,zr' rfl (oM rfl),zr' rfl (oM rfl),zr' rfl (oB rfl rfl),zr' rfl (oM rfl),zr' rfl (oM rfl),zr' rfl (oB rfl rfl),zr' rfl (op_beq _ _ _ _ underlying4 rfl rfl),z3 true rfl,z8 hg17_17 rfl,zt rfl,z3 false rfl,z2 rfl,zz⟩ ?_
              exact hl43 _ (zi h).symm
            ·refine zg hn (_::_::_::_::_::_::(101,vi v22)::(102,vi v11)::(103,vb (decide (v22 ≤ v11)))::(104,vb true)::(105,vi v21)::(106,vi v10)::(107,vb (decide (v21 ≤ v10)))::(108,vb (decide (v21 ≤ v10)))::(109,vb false)::(110,.v undef)::(111,.v undef)::(112,.v undef)::(113,.v undef)::(114,.v undef)::(115,.v undef)::(116,.v undef)::(117,vb false)::(118,vb false)::(119,.v undef)::(120,vb false)::(4,vb false)::[]) [0,1,2,3,4,5] [0,26] (zq [4] 6 101::zq [2] 7 102::zq [6,7] 8 103::zq [8] 9 104::zq [9,3] 10 105::zq [9,1] 11 106::zq [9,10,11] 12 107::zq [9,12] 13 108::zq [13] 14 109::zq [14] 15 110::zq [14] 16 111::zq [14] 17 112::zq [14] 18 113::zq [14] 19 114::zq [14] 20 115::zq [14] 21 116::zq [14] 22 117::zq [22] 23 118::zq [23] 24 119::zq [23] 25 120::zq [25] 26 4::[]) [(_,_),(_,_)] rfl ⟨z1 rfl,z1 rfl,z4 rfl rfl,z8 hg17_3 rfl,zr' rfl (oM rfl),zr' rfl (oM rfl),zr' rfl (oB rfl rfl),z3 true rfl,z8 hg17_8 rfl,zt rfl,zt rfl,zt rfl,zt rfl,zt rfl,zt rfl,zt rfl,z3 false rfl,z1 rfl,zt rfl,z3 false rfl,z2 rfl,zz⟩ ?_
             exact hl43 _ (zi h).symm
           ·refine zg hn (_::_::_::_::_::_::(101,vi v22)::(102,vi v11)::(103,vb (decide (v22 ≤ v11)))::(104,vb false)::(105,.v undef)::(106,.v undef)::(107,.v undef)::(108,vb false)::(109,vb false)::(110,.v undef)::(111,.v undef)::(112,.v undef)::(113,.v undef)::(114,.v undef)::(115,.v undef)::(116,.v undef)::(117,vb false)::(118,vb false)::(119,.v undef)::(120,vb false)::(4,vb false)::[]) [0,1,2,3,4,5] [0,26] (zq [4] 6 101::zq [2] 7 102::zq [6,7] 8 103::zq [8] 9 104::zq [9] 10 105::zq [9] 11 106::zq [9] 12 107::zq [9] 13 108::zq [13] 14 109::zq [14] 15 110::zq [14] 16 111::zq [14] 17 112::zq [14] 18 113::zq [14] 19 114::zq [14] 20 115::zq [14] 21 116::zq [14] 22 117::zq [22] 23 118::zq [23] 24 119::zq [23] 25 120::zq [25] 26 4::[]) [(_,_),(_,_)] rfl ⟨z1 rfl,z1 rfl,z4 rfl rfl,z8 hg17_3 rfl,zt rfl,zt rfl,zt rfl,z3 false rfl,z1 rfl,zt rfl,zt rfl,zt rfl,zt rfl,zt rfl,zt rfl,zt rfl,z3 false rfl,z1 rfl,zt rfl,z3 false rfl,z2 rfl,zz⟩ ?_
            exact hl43 _ (zi h).symm
         ·have h := cond_f hb38 h
          refine ht_skip ?_
          refine pt_inb ?_
          refine pt_then (ht_seq ?_)
          refine ht_joinS h (fun (s46 : Bool) => [(132,.glob (GL mx)),(4,vb s46)]) ?_ ?_
          ·rintro s46 h
           refine pt_then (ht_ret ?_)
           refine pt_pick [1] (by kernel_rfl) (es' := [(_,_)]) rfl ?_
           obtain rfl := zi h
           exact pt_ret hio rfl (.tmp _ _ .nil) rfl rfl
          ·intro u47 h hl48 hr49
           refine cond_some h (fun hg18_3 h => ?_) (fun hg18_3 h => ?_)
           ·refine cond_some h (fun hg18_8 h => ?_) (fun hg18_8 h => ?_)
            ·obtain ⟨v45, hv45, h⟩ := zn h
             refine zg hn (_::_::_::_::_::_::(121,vi v22)::(122,vi v11)::(123,vb (v22 == v11))::(124,vb true)::(125,vi v21)::(126,vi v10)::(127,vb (v21 == v10))::(128,vb (v21 == v10))::(129,vb true)::(130,vb v45)::(131,vb v45)::(4,vb v45)::[]) [0,1,2,3,4,5] [0,17] [zq [4] 6 121,zq [2] 7 122,zq [6,7] 8 123,zq [8] 9 124,zq [9,3] 10 125,zq [9,1] 11 126,zq [9,10,11] 12 127,zq [9,12] 13 128,zq [13] 14 129,zq [14,0] 15 130,zq [14,15] 16 131,zq [16] 17 4] [(_,_),(_,_)] rfl ⟨z1 rfl,z1 rfl,z4 rfl rfl,z8 hg18_3 rfl,zr' rfl (oM rfl),zr' rfl (oM rfl),zr' rfl (oB rfl rfl),z3 true rfl,z8 hg18_8 rfl,zr' rfl (op_callG _ _ 132 12 _ _ rfl call12 rfl rfl (fun _ h => h) (ok_wherrylaw26_wakes mx  _ hv45) rfl rfl),z3 true rfl,z2 rfl,zz⟩ ?_
             exact hl48 _ (zi h).symm
            ·refine zg hn (_::_::_::_::_::_::(121,vi v22)::(122,vi v11)::(123,vb (v22 == v11))::(124,vb true)::(125,vi v21)::(126,vi v10)::(127,vb (v21 == v10))::(128,vb (v21 == v10))::(129,vb false)::(130,.v undef)::(131,vb false)::(4,vb false)::[]) [0,1,2,3,4,5] [0,17] [zq [4] 6 121,zq [2] 7 122,zq [6,7] 8 123,zq [8] 9 124,zq [9,3] 10 125,zq [9,1] 11 126,zq [9,10,11] 12 127,zq [9,12] 13 128,zq [13] 14 129,zq [14] 15 130,zq [14] 16 131,zq [16] 17 4] [(_,_),(_,_)] rfl ⟨z1 rfl,z1 rfl,z4 rfl rfl,z8 hg18_3 rfl,zr' rfl (oM rfl),zr' rfl (oM rfl),zr' rfl (oB rfl rfl),z3 true rfl,z8 hg18_8 rfl,zt rfl,z3 false rfl,z2 rfl,zz⟩ ?_
             exact hl48 _ (zi h).symm
           ·refine zg hn (_::_::_::_::_::_::(121,vi v22)::(122,vi v11)::(123,vb (v22 == v11))::(124,vb false)::(125,.v undef)::(126,.v undef)::(127,.v undef)::(128,vb false)::(129,vb false)::(130,.v undef)::(131,vb false)::(4,vb false)::[]) [0,1,2,3,4,5] [0,17] [zq [4] 6 121,zq [2] 7 122,zq [6,7] 8 123,zq [8] 9 124,zq [9] 10 125,zq [9] 11 126,zq [9] 12 127,zq [9] 13 128,zq [13] 14 129,zq [14] 15 130,zq [14] 16 131,zq [16] 17 4] [(_,_),(_,_)] rfl ⟨z1 rfl,z1 rfl,z4 rfl rfl,z8 hg18_3 rfl,zt rfl,zt rfl,zt rfl,z3 false rfl,z1 rfl,zt rfl,z3 false rfl,z2 rfl,zz⟩ ?_
            exact hl48 _ (zi h).symm
    ·intro u15 h hl16 hr17
     obtain ⟨v12, hv12, h⟩ := zn h
     obtain ⟨v13, hv13, h⟩ := zn h
     refine cond_some h (fun hg6_5 h => ?_) (fun hg6_5 h => ?_)
     ·refine zg hn (_::_::_::_::_::_::_::(35,vi v10)::(36,vi v11)::(37,vi v12)::(38,vi v13)::(39,vb (decide (v10 < v13)))::(40,vb true)::(41,.v undef)::(42,.v undef)::(43,vb true)::(44,vb true)::(45,.v undef)::(46,.v undef)::(47,.v undef)::(48,.v undef)::(49,.v undef)::(50,vb true)::[]) [0,1,2,3,4,5,6] [0,1,3,4,5,6,22] (zq [5] 7 35::zq [6] 8 36::zq [8] 9 37::zq [9] 10 38::zq [7,10] 11 39::zq [11] 12 40::zq [12] 13 41::zq [12] 14 42::zq [12] 15 43::zq [15] 16 44::zq [16] 17 45::zq [16] 18 46::zq [16] 19 47::zq [16] 20 48::zq [16] 21 49::zq [16] 22 50::[]) [(_,_),(_,_),(_,_),(_,_),(_,_),(_,_),(_,_)] rfl ⟨z1 rfl,z1 rfl,zp rfl (oB rfl (ibind (f := int .i64) (Option.some.inj hv12))),zp rfl (oB rfl (ibind (f := int .i64) (Option.some.inj hv13))),z4 rfl rfl,z8 hg6_5 rfl,zf rfl,zf rfl,z3 true rfl,z1 rfl,zf rfl,zf rfl,zf rfl,zf rfl,zf rfl,z3 true rfl,zz⟩ ?_
      exact hl16 _ (zi h).symm
     ·refine cond_some h (fun hg6_9 h => ?_) (fun hg6_9 h => ?_)
      ·refine zg hn (_::_::_::_::_::_::_::(35,vi v10)::(36,vi v11)::(37,vi v12)::(38,vi v13)::(39,vb (decide (v10 < v13)))::(40,vb false)::(41,vi v11)::(42,vb (decide (v11 < 0)))::(43,vb (decide (v11 < 0)))::(44,vb true)::(45,.v undef)::(46,.v undef)::(47,.v undef)::(48,.v undef)::(49,.v undef)::(50,vb true)::[]) [0,1,2,3,4,5,6] [0,1,3,4,5,6,22] (zq [5] 7 35::zq [6] 8 36::zq [8] 9 37::zq [9] 10 38::zq [7,10] 11 39::zq [11] 12 40::zq [12,6] 13 41::zq [12,13] 14 42::zq [12,14] 15 43::zq [15] 16 44::zq [16] 17 45::zq [16] 18 46::zq [16] 19 47::zq [16] 20 48::zq [16] 21 49::zq [16] 22 50::[]) [(_,_),(_,_),(_,_),(_,_),(_,_),(_,_),(_,_)] rfl ⟨z1 rfl,z1 rfl,zp rfl (oB rfl (ibind (f := int .i64) (Option.some.inj hv12))),zp rfl (oB rfl (ibind (f := int .i64) (Option.some.inj hv13))),z4 rfl rfl,z8 hg6_5 rfl,zr' rfl (oM rfl),zr' rfl (oB rfl rfl),z3 false rfl,z8 hg6_9 rfl,zf rfl,zf rfl,zf rfl,zf rfl,zf rfl,z3 true rfl,zz⟩ ?_
       exact hl16 _ (zi h).symm
      ·refine zg hn (_::_::_::_::_::_::_::(35,vi v10)::(36,vi v11)::(37,vi v12)::(38,vi v13)::(39,vb (decide (v10 < v13)))::(40,vb false)::(41,vi v11)::(42,vb (decide (v11 < 0)))::(43,vb (decide (v11 < 0)))::(44,vb false)::(45,vi v11)::(46,.ptr 5 0)::(47,.same (.cell 5 0))::(48,vi (v8.1.Items.length : Int))::(49,vb (decide ((v8.1.Items.length : Int) < v11)))::(50,vb (decide ((v8.1.Items.length : Int) < v11)))::[]) [0,1,2,3,4,5,6] [0,1,3,4,5,6,22] (zq [5] 7 35::zq [6] 8 36::zq [8] 9 37::zq [9] 10 38::zq [7,10] 11 39::zq [11] 12 40::zq [12,6] 13 41::zq [12,13] 14 42::zq [12,14] 15 43::zq [15] 16 44::zq [16,6] 17 45::zq [16,2] 18 46::zq [16,18,2] 19 47::zq [16,19,2] 20 48::zq [16,17,20] 21 49::zq [16,21] 22 50::[]) [(_,_),(_,_),(_,_),(_,_),(_,_),(_,_),(_,_)] rfl ⟨z1 rfl,z1 rfl,zp rfl (oB rfl (ibind (f := int .i64) (Option.some.inj hv12))),zp rfl (oB rfl (ibind (f := int .i64) (Option.some.inj hv13))),z4 rfl rfl,z8 hg6_5 rfl,zr' rfl (oM rfl),zr' rfl (oB rfl rfl),z3 false rfl,z8 hg6_9 rfl,zr' rfl (oM rfl),zr' rfl (oF underlying43 rfl sz41),zr' rfl (oL underlying41 rfl),zr' rfl (op_len_fr _ _ _ underlying41 rfl (by decide) (gflat_len T_Item.ilen _)),zr' rfl (oB rfl rfl),z3 false rfl,zz⟩ ?_
       exact hl16 _ (zi h).symm
  ·intro u4 h hl5 hr6
   obtain ⟨v1, hv1, h⟩ := zn h
   refine cond_some h (fun hg1_2 h => ?_) (fun hg1_2 h => ?_)
   ·refine zg hn [_,_,_,(13,.fr .shr true 15 (flatten (map T_Rec.ienc recs))),(14,vb v1),(15,vb true),(16,.v undef),(17,.v undef),(18,.v undef),(19,vb true)] [0,1,2] [0,1,2,9] [zq [0] 3 13,zq [3] 4 14,zq [4] 5 15,zq [5] 6 16,zq [5] 7 17,zq [5] 8 18,zq [5] 9 19] [(_,_),(_,_),(_,_),(_,_)] rfl ⟨z1 rfl,zp rfl (op_call _ _ 13 _ _ rfl call13 rfl (ok_wherrylaw18_Heavy recs _ hv1) rfl rfl),z8 hg1_2 rfl,zf rfl,zf rfl,zf rfl,z3 true rfl,zz⟩ ?_
    exact hl5 _ (zi h).symm
   ·obtain ⟨v2, hv2, h⟩ := zn h
    refine zg hn [_,_,_,(13,.fr .shr true 15 (flatten (map T_Rec.ienc recs))),(14,vb v1),(15,vb false),(16,.agg (T_Rec.c p_r [])),(17,.fr (.own 39) true 15 (flatten (map T_Rec.ienc [(T_Rec.mk p_r.Kind ((T_Mail.mk (T_Path.mk p_r.Mail.From.Null p_r.Mail.From.Local p_r.Mail.From.Domain) p_r.Mail.To p_r.Mail.Body p_r.Mail.Quiet p_r.Mail.Helo p_r.Mail.At)) p_r.Id p_r.Ids p_r.Origin p_r.Number p_r.Offset p_r.Data)]))),(18,vb v2),(19,vb v2)] [0,1,2] [0,1,2,9] [zq [0] 3 13,zq [3] 4 14,zq [4] 5 15,zq [5,2] 6 16,zq [5,6] 7 17,zq [5,7] 8 18,zq [5,8] 9 19] [(_,_),(_,_),(_,_),(_,_)] rfl ⟨z1 rfl,zp rfl (op_call _ _ 13 _ _ rfl call13 rfl (ok_wherrylaw18_Heavy recs _ hv1) rfl rfl),z8 hg1_2 rfl,zr' rfl (op_loadA _ _ _ _ _ _ _ underlying39 rfl sz39 rfl rfl (zl rfl) rfl rfl),zr' rfl (op_build1_fr _ _ _ 15 (.agg #[.int .i64 0, .bool false, .string ByteArray.empty, .string ByteArray.empty, .slice none 0 0, .slice none 0 0, .bool false, .string ByteArray.empty, .int .i64 0, .int .i64 0, .slice none 0 0, .int .i64 0, .int .i64 0, .int .i64 0, .slice none 0 0]) true _ _ underlying33 sz39 zr39 rfl rfl (.cons (.v _) (.cons (.v _) (.cons (.v _) (.cons (.v _) (.cons (.shr _ _ rfl rfl) (.cons (.shr _ _ rfl rfl) (.cons (.v _) (.cons (.v _) (.cons (.v _) (.cons (.v _) (.cons (.shr _ _ rfl rfl) (.cons (.v _) (.cons (.v _) (.cons (.v _) (.cons (.shr _ _ rfl rfl) (.nil)))))))))))))))) rfl (by decide) (by decide)),zr' rfl (op_call _ _ 13 _ _ rfl call13 rfl (ok_wherrylaw18_Heavy [(T_Rec.mk p_r.Kind ((T_Mail.mk (T_Path.mk p_r.Mail.From.Null p_r.Mail.From.Local p_r.Mail.From.Domain) p_r.Mail.To p_r.Mail.Body p_r.Mail.Quiet p_r.Mail.Helo p_r.Mail.At)) p_r.Id p_r.Ids p_r.Origin p_r.Number p_r.Offset p_r.Data)] _ hv2) rfl rfl),z3 false rfl,zz⟩ ?_
    exact hl5 _ (zi h).symm

end Go.Proofs.YtofbofdggabfiaaDoor
