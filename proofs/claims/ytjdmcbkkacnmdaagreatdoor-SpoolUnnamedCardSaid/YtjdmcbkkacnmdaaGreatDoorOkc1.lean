/-
  The model's runs are what is told in Lean.
-/
import Derived.Test.YtjdmcbkkacnmdaaGreatDoorProg
import Derived.KernelRfl
import Derived.Test.YtjdmcbkkacnmdaaGreatDoorShelf
import Derived.Test.YtjdmcbkkacnmdaaGreatDoorIdx
import Derived.Test.YtjdmcbkkacnmdaaGreatDoorIns
import Derived.Test.YtjdmcbkkacnmdaaGreatDoorB1
import Derived.Test.YtjdmcbkkacnmdaaGreatDoorC1
import Derived.Test.YtjdmcbkkacnmdaaGreatDoorSh
set_option linter.unusedVariables false
set_option linter.unusedSimpArgs false
set_option maxHeartbeats 1000000
namespace Go.Proofs.YtjdmcbkkacnmdaaGreatDoor
open Go.Abs Go.Abs.Sh Tryz
open List (map flatten)
open Value (int)
def GL (mx : Int) : List (Nat × List Value) := [(0, [.int .i64 mx]), (1, (List.map (Value.int .u8) utf8_first)), (2, (List.map (Value.int .u8) utf8_accept))]
theorem gl_mem0 (mx : Int) : (0, ([.int .i64 mx] : List Value)) ∈ GL mx := .head _
theorem gl_mem1 (mx : Int) : (1, ((List.map (Value.int .u8) utf8_first) : List Value)) ∈ GL mx := .tail _ (.head _)
theorem gl_mem2 (mx : Int) : (2, ((List.map (Value.int .u8) utf8_accept) : List Value)) ∈ GL mx := .tail _ (.tail _ (.head _))
instance iUD22 : UD Tryz.prog 22 (.slice 31) := ⟨Tryz.underlying22⟩
instance iLiT_Rec : LenI T_Rec.ienc 15 := ⟨T_Rec.ilen⟩
theorem sz31 : (Tryz.prog.info? 31).map (·.size) = some 15 := by kernel_rfl
theorem sz26 : (Tryz.prog.info? 26).map (·.size) = some 1 := by kernel_rfl
instance iSZ31 : SZ Tryz.prog 31 15 := ⟨by kernel_rfl⟩
instance iFO31_7 : FO Tryz.prog 31 7 14 := ⟨by kernel_rfl⟩
instance iUD26 : UD Tryz.prog 26 (.slice 5) := ⟨Tryz.underlying26⟩
theorem sz29 : (Tryz.prog.info? 29).map (·.size) = some 1 := by kernel_rfl
instance iFO31_3 : FO Tryz.prog 31 3 10 := ⟨by kernel_rfl⟩
instance iUD29 : UD Tryz.prog 29 (.slice 3) := ⟨Tryz.underlying29⟩
theorem sz28 : (Tryz.prog.info? 28).map (·.size) = some 8 := by kernel_rfl
theorem zr28 : (Tryz.prog.info? 28).bind (·.zero) = some (.agg #[.bool false, .string ByteArray.empty, .string ByteArray.empty, .slice none 0 0, .slice none 0 0, .bool false, .string ByteArray.empty, .int .i64 0]) := by kernel_rfl
instance iUD54 : UD Tryz.prog 54 (.slice 28) := ⟨Tryz.underlying54⟩
instance iLiT_Mail : LenI T_Mail.ienc 8 := ⟨T_Mail.ilen⟩
theorem sz24 : (Tryz.prog.info? 24).map (·.size) = some 3 := by kernel_rfl
instance iSZ28 : SZ Tryz.prog 28 8 := ⟨by kernel_rfl⟩
instance iFO28_2 : FO Tryz.prog 28 2 4 := ⟨by kernel_rfl⟩
instance iFO28_4 : FO Tryz.prog 28 4 6 := ⟨by kernel_rfl⟩
instance iUD9 : UD Tryz.prog 9 .string := ⟨Tryz.underlying9⟩
instance iFO28_0 : FO Tryz.prog 28 0 0 := ⟨by kernel_rfl⟩
instance iFO24_1 : FO Tryz.prog 24 1 1 := ⟨by kernel_rfl⟩
instance iFO24_2 : FO Tryz.prog 24 2 2 := ⟨by kernel_rfl⟩
theorem sz25 : (Tryz.prog.info? 25).map (·.size) = some 1 := by kernel_rfl
instance iFO28_1 : FO Tryz.prog 28 1 3 := ⟨by kernel_rfl⟩
instance iUD25 : UD Tryz.prog 25 (.slice 24) := ⟨Tryz.underlying25⟩
instance iLT_Path : LenE T_Path.enc 3 := ⟨T_Path.len⟩
instance iSZ24 : SZ Tryz.prog 24 3 := ⟨by kernel_rfl⟩
instance iAG9 : AS Tryz.prog 9 := ⟨by kernel_rfl⟩
instance iFO31_1 : FO Tryz.prog 31 1 1 := ⟨by kernel_rfl⟩
theorem zr31 : (Tryz.prog.info? 31).bind (·.zero) = some (.agg #[.int .i64 0, .bool false, .string ByteArray.empty, .string ByteArray.empty, .slice none 0 0, .slice none 0 0, .bool false, .string ByteArray.empty, .int .i64 0, .int .i64 0, .slice none 0 0, .int .i64 0, .int .i64 0, .int .i64 0, .slice none 0 0]) := by kernel_rfl
instance iAG31 : AA Tryz.prog 31 15 := ⟨by kernel_rfl⟩
theorem zr37 : (Tryz.prog.info? 37).bind (·.zero) = some (.agg #[.slice none 0 0, .int .i64 0, .slice none 0 0, .slice none 0 0, .int .i64 0, .slice none 0 0]) := by kernel_rfl
theorem fs37 : ∀ fs, Tryz.prog.underlying 37 = some (.struct fs) → fs.toList.map (fun f => (Tryz.prog.info? f.type).map (·.size)) = ([1, 1, 1, 1, 1, 1] : List Nat).map some := by
  intro fs h
  rw [Tryz.underlying37] at h
  cases h
  kernel_rfl
theorem sz37 : (Tryz.prog.info? 37).map (·.size) = some 6 := by kernel_rfl
instance iAG37 : AA Tryz.prog 37 6 := ⟨by kernel_rfl⟩
theorem sz3 : (Tryz.prog.info? 3).map (·.size) = some 1 := by kernel_rfl
theorem el29 : ElemT Tryz.prog 29 3 1 8 := ⟨⟨Tryz.t3, .int .i64 0, Tryz.underlying29, by kernel_rfl, by kernel_rfl, by kernel_rfl, by kernel_rfl, by decide, by kernel_rfl⟩⟩
theorem el26 : ElemT Tryz.prog 26 5 1 1 := ⟨⟨Tryz.t5, .int .u8 0, Tryz.underlying26, by kernel_rfl, by kernel_rfl, by kernel_rfl, by kernel_rfl, by decide, by kernel_rfl⟩⟩
instance iFO37_1 : FO Tryz.prog 37 1 1 := ⟨by kernel_rfl⟩
instance iAG3 : AS Tryz.prog 3 := ⟨by kernel_rfl⟩
instance iFO37_2 : FO Tryz.prog 37 2 2 := ⟨by kernel_rfl⟩
instance iAG29 : AS Tryz.prog 29 := ⟨by kernel_rfl⟩
instance iFO37_3 : FO Tryz.prog 37 3 3 := ⟨by kernel_rfl⟩
instance iAG26 : AS Tryz.prog 26 := ⟨by kernel_rfl⟩
instance iFO37_4 : FO Tryz.prog 37 4 4 := ⟨by kernel_rfl⟩
instance iFO37_5 : FO Tryz.prog 37 5 5 := ⟨by kernel_rfl⟩
theorem sz35 : (Tryz.prog.info? 35).map (·.size) = some 1 := by kernel_rfl
instance iFO37_0 : FO Tryz.prog 37 0 0 := ⟨by kernel_rfl⟩
instance iAG35 : AS Tryz.prog 35 := ⟨by kernel_rfl⟩
instance iUD35 : UD Tryz.prog 35 (.slice 47) := ⟨Tryz.underlying35⟩
instance iLiT_Item : LenI T_Item.ienc 11 := ⟨T_Item.ilen⟩
theorem sz47 : (Tryz.prog.info? 47).map (·.size) = some 11 := by kernel_rfl
theorem zr47 : (Tryz.prog.info? 47).bind (·.zero) = some (.agg #[.int .i64 0, .bool false, .string ByteArray.empty, .string ByteArray.empty, .slice none 0 0, .slice none 0 0, .bool false, .string ByteArray.empty, .int .i64 0, .int .i64 0, .int .i64 0]) := by kernel_rfl
instance iSZ47 : SZ Tryz.prog 47 11 := ⟨by kernel_rfl⟩
instance iAG47 : AA Tryz.prog 47 11 := ⟨by kernel_rfl⟩
theorem el25 : ElemT Tryz.prog 25 24 3 40 := ⟨⟨Tryz.t24, .agg #[.bool false, .string ByteArray.empty, .string ByteArray.empty], Tryz.underlying25, by kernel_rfl, by kernel_rfl, by kernel_rfl, by kernel_rfl, by decide, by kernel_rfl⟩⟩
instance iAG25 : AS Tryz.prog 25 := ⟨by kernel_rfl⟩
instance iFO47_1 : FO Tryz.prog 47 1 1 := ⟨by kernel_rfl⟩
instance iAG28 : AA Tryz.prog 28 8 := ⟨by kernel_rfl⟩
theorem el35 : ElemT Tryz.prog 35 47 11 144 := ⟨⟨Tryz.t47, .agg #[.int .i64 0, .bool false, .string ByteArray.empty, .string ByteArray.empty, .slice none 0 0, .slice none 0 0, .bool false, .string ByteArray.empty, .int .i64 0, .int .i64 0, .int .i64 0], Tryz.underlying35, by kernel_rfl, by kernel_rfl, by kernel_rfl, by kernel_rfl, by decide, by kernel_rfl⟩⟩
theorem fs31 : ∀ fs, Tryz.prog.underlying 31 = some (.struct fs) → fs.toList.map (fun f => (Tryz.prog.info? f.type).map (·.size)) = ([1, 8, 1, 1, 1, 1, 1, 1] : List Nat).map some := by
  intro fs h
  rw [Tryz.underlying31] at h
  cases h
  kernel_rfl
instance iFO31_0 : FO Tryz.prog 31 0 0 := ⟨by kernel_rfl⟩
instance iFO31_2 : FO Tryz.prog 31 2 9 := ⟨by kernel_rfl⟩
instance iFO31_4 : FO Tryz.prog 31 4 11 := ⟨by kernel_rfl⟩
instance iFO24_0 : FO Tryz.prog 24 0 0 := ⟨by kernel_rfl⟩
instance iAG4 : AS Tryz.prog 4 := ⟨by kernel_rfl⟩
instance iAG24 : AA Tryz.prog 24 3 := ⟨by kernel_rfl⟩
theorem sz5 : (Tryz.prog.info? 5).map (·.size) = some 1 := by kernel_rfl
instance iSZ5 : SZ Tryz.prog 5 1 := ⟨by kernel_rfl⟩
instance iAG5 : AS Tryz.prog 5 := ⟨by kernel_rfl⟩
instance iFO28_5 : FO Tryz.prog 28 5 7 := ⟨by kernel_rfl⟩
theorem fs47 : ∀ fs, Tryz.prog.underlying 47 = some (.struct fs) → fs.toList.map (fun f => (Tryz.prog.info? f.type).map (·.size)) = ([1, 8, 1, 1] : List Nat).map some := by
  intro fs h
  rw [Tryz.underlying47] at h
  cases h
  kernel_rfl
instance iFO31_5 : FO Tryz.prog 31 5 12 := ⟨by kernel_rfl⟩
instance iSZ3 : SZ Tryz.prog 3 1 := ⟨by kernel_rfl⟩
instance iFO47_2 : FO Tryz.prog 47 2 9 := ⟨by kernel_rfl⟩
instance iFO47_3 : FO Tryz.prog 47 3 10 := ⟨by kernel_rfl⟩
theorem zr3 : (Tryz.prog.info? 3).bind (·.zero) = some (.int .i64 0) := by kernel_rfl
instance iFO31_6 : FO Tryz.prog 31 6 13 := ⟨by kernel_rfl⟩
instance iFO28_3 : FO Tryz.prog 28 3 5 := ⟨by kernel_rfl⟩
instance iUD3 : UD Tryz.prog 3 (.int .i64) := ⟨Tryz.underlying3⟩
instance iUD51 : UD Tryz.prog 51 (.int .u64) := ⟨Tryz.underlying51⟩
theorem zr5 : (Tryz.prog.info? 5).bind (·.zero) = some (.int .u8 0) := by kernel_rfl
theorem fs28 : ∀ fs, Tryz.prog.underlying 28 = some (.struct fs) → fs.toList.map (fun f => (Tryz.prog.info? f.type).map (·.size)) = ([3, 1, 1, 1, 1, 1] : List Nat).map some := by
  intro fs h
  rw [Tryz.underlying28] at h
  cases h
  kernel_rfl
theorem fs24 : ∀ fs, Tryz.prog.underlying 24 = some (.struct fs) → fs.toList.map (fun f => (Tryz.prog.info? f.type).map (·.size)) = ([1, 1, 1] : List Nat).map some := by
  intro fs h
  rw [Tryz.underlying24] at h
  cases h
  kernel_rfl
theorem zr24 : (Tryz.prog.info? 24).bind (·.zero) = some (.agg #[.bool false, .string ByteArray.empty, .string ByteArray.empty]) := by kernel_rfl
theorem zr4 : (Tryz.prog.info? 4).bind (·.zero) = some (.bool false) := by kernel_rfl
instance iUD5 : UD Tryz.prog 5 (.int .u8) := ⟨Tryz.underlying5⟩
instance iUD21 : UD Tryz.prog 21 (.int .i32) := ⟨Tryz.underlying21⟩
instance iAG91 : AS Tryz.prog 91 := ⟨by kernel_rfl⟩
theorem zr42 : (Tryz.prog.info? 42).bind (·.zero) = some (.int .i64 0) := by kernel_rfl
instance iAG42 : AS Tryz.prog 42 := ⟨by kernel_rfl⟩
instance iFO47_0 : FO Tryz.prog 47 0 0 := ⟨by kernel_rfl⟩
theorem ins50 : InsOK Tryz.prog 50 3 := insOK_int Tryz.lays2_21
theorem el22 : ElemT Tryz.prog 22 31 15 208 := ⟨⟨Tryz.t31, .agg #[.int .i64 0, .bool false, .string ByteArray.empty, .string ByteArray.empty, .slice none 0 0, .slice none 0 0, .bool false, .string ByteArray.empty, .int .i64 0, .int .i64 0, .slice none 0 0, .int .i64 0, .int .i64 0, .int .i64 0, .slice none 0 0], Tryz.underlying22, by kernel_rfl, by kernel_rfl, by kernel_rfl, by kernel_rfl, by decide, by kernel_rfl⟩⟩
abbrev T_Rec.c (x : T_Rec) (r : List AV) : List AV := vi x.Kind :: vb x.Mail.From.Null :: vs x.Mail.From.Local :: vs x.Mail.From.Domain :: .fl .shr 3 (flatten (map T_Path.enc x.Mail.To)) :: fb x.Mail.Body :: vb x.Mail.Quiet :: vs x.Mail.Helo :: vi x.Mail.At :: vi x.Id :: fi x.Ids :: vi x.Origin :: vi x.Number :: vi x.Offset :: fb x.Data :: r
abbrev T_Item.c (x : T_Item) (r : List AV) : List AV := vi x.Id :: vb x.Mail.From.Null :: vs x.Mail.From.Local :: vs x.Mail.From.Domain :: .fl .shr 3 (flatten (map T_Path.enc x.Mail.To)) :: fb x.Mail.Body :: vb x.Mail.Quiet :: vs x.Mail.Helo :: vi x.Mail.At :: vi x.State :: vi x.Pack :: r
abbrev T_Mail.c (x : T_Mail) (r : List AV) : List AV := vb x.From.Null :: vs x.From.Local :: vs x.From.Domain :: .fl .shr 3 (flatten (map T_Path.enc x.To)) :: fb x.Body :: vb x.Quiet :: vs x.Helo :: vi x.At :: r
abbrev T_Spool.c (x : T_Spool) (r : List AV) : List AV := .fr .shr true 11 (flatten (map T_Item.ienc x.Items)) :: vi x.Packs :: fi x.Sent :: fb x.Part :: vi x.Of :: fi x.Done :: r
theorem ok_wherrylaw17_Heavy (l : (List T_Mail)) (r : Bool) (h : Sh.wherrylaw17_Heavy l = some r) : FnOK Tryz.prog 20 [.fr .shr true 8 (flatten (map T_Mail.ienc l))] (.v (.bool r)) := by
  unfold Sh.wherrylaw17_Heavy at h
  refine yO 88 func20 fun g0 hn hio => ?_
  refine yyy hn 1 [0] ?_
  refine ht_seq ?_
  refine yyy hn 3 [0,8] ?_
  refine ht_cond _ rfl (fun hb1 => ?_) (fun hb1 => ?_)
  ·have h := cond_t hb1 h
   refine yyy hn 1 [2] ?_
   refine ht_ret ?_
   refine pt_r_then ?_
   obtain rfl := zi h
   exact pt_ret hio rfl (.tmp _ _ .nil) rfl rfl
  ·have h := cond_f hb1 h
   refine ht_skip ?_
   refine pt_then ?_
   refine yyy hn 1 [0,3] ?_
   refine ht_seq ?_
   refine yyy hn 1 [0,3,4] ?_
   refine ht_loopS h (fun ((s66,s67) : Int × Int) => [(0,.fr .shr true 8 (flatten (map T_Mail.ienc l))),(3,vi s66),(4,vi s67)]) (fun (s85 : Int) => [(3,vi s85)]) ?_ ?_
   ·rintro s85 h
    refine pt_then ?_
    refine yyy hn 3 [2] ?_
    refine ht_ret ?_
    obtain rfl := zi h
    exact pt_ret hio rfl (.tmp _ _ .nil) rfl rfl
   ·rintro u86 hl87 hr88 ⟨s66, s67⟩ rr91 h ho89
    refine ht_seq ?_
    refine yyy hn 4 [0,3,4,12] ?_
    refine ht_cond _ rfl (fun hb92 => ?_) (fun hb92 => ?_)
    ·have h := cond_t hb92 h
     refine ht_skip ?_
     refine pt_then (ht_seq ?_)
     refine ht_block ?_
     refine ht_seq ?_
     obtain ⟨v3, hv3, h⟩ := zn h
     obtain ⟨v4, hv4, h⟩ := zn h
     obtain ⟨v5, hv5, h⟩ := zn h
     obtain ⟨v6, hv6, h⟩ := zn h
     obtain ⟨v7, hv7, h⟩ := zn h
     obtain ⟨v8, hv8, h⟩ := zn h
     obtain ⟨v9, hv9, h⟩ := zn h
     obtain ⟨v10, hv10, h⟩ := zn h
     obtain ⟨v11, hv11, h⟩ := zn h
     obtain ⟨v12, hv12, h⟩ := zn h
     obtain ⟨v13, hv13, h⟩ := zn h
     obtain ⟨v14, hv14, h⟩ := zn h
     refine wb [[3],[0],[4]] ?_
     refine wN [16,17] ?_
     refine wo [[18,16]] ⟨lI hv3⟩ ?_
     refine wN [19,16] ?_
     refine wS (fb v4.Body) [[20]] ⟨op_load_fr _ _ _ _ _ _ _ underlying26 rfl rfl rfl (gflat_cell T_Mail.ilen hv4 rfl) (.fl _ _ rfl)⟩ ?_
     refine wN [15,21] ?_
     refine wo [[0],[4]] ⟨lb hv5⟩ ?_
     refine wN [23,24] ?_
     refine wo [[25,23]] ⟨lI hv6⟩ ?_
     refine wN [26,23] ?_
     refine wS (vs v7.Helo) [[27]] ⟨op_load_fr _ _ _ _ _ _ _ underlying9 rfl rfl rfl (gflat_cell T_Mail.ilen hv7 rfl) (.v _)⟩ ?_
     refine wN [22,28] ?_
     refine wo [[0],[4]] ⟨lb hv8⟩ ?_
     refine wN [30,31] ?_
     refine wo [[32,30],[33,30]] ⟨lI hv9⟩ ?_
     refine wN [34,30] ?_
     refine wS (vs v10.From.Local) [[35]] ⟨op_load_fr _ _ _ _ _ _ _ underlying9 rfl rfl rfl (gflat_cell T_Mail.ilen hv10 rfl) (.v _)⟩ ?_
     refine wN [29,36] ?_
     refine wo [[0],[4]] ⟨lb hv11⟩ ?_
     refine wN [38,39] ?_
     refine wo [[40,38],[41,38]] ⟨lI hv12⟩ ?_
     refine wN [42,38] ?_
     refine wS (vs v13.From.Domain) [[43]] ⟨op_load_fr _ _ _ _ _ _ _ underlying9 rfl rfl rfl (gflat_cell T_Mail.ilen hv13 rfl) (.v _)⟩ ?_
     refine wN [37,44] ?_
     refine wo [] ⟨lb hv14⟩ ?_
     refine wK [3] [45] ?_
     refine wt [(3,vi v14)] [] ⟨LOp.drop [_] (op_assign _ _ _ _ rfl rfl)⟩ ?_
     refine wee hn [0,4,3] ?_
     refine ht_seq ?_
     refine ht_seq ?_
     obtain ⟨v15, hv15, h⟩ := zn h
     obtain ⟨v16, hv16, h⟩ := zn h
     refine yx hn 2 ?_
     refine ys 1 ⟨lI hv15⟩ ?_
     refine yS (.fl .shr 3 (flatten (map T_Path.enc v16.To))) 2 ⟨op_load_fr _ _ _ _ _ _ _ underlying25 rfl rfl rfl (gflat_cell T_Mail.ilen hv16 rfl) (.fl _ _ rfl)⟩ ?_
     refine yee [0,4,3,52] ?_
     refine ht_cond _ rfl (fun hb93 => ?_) (fun hb93 => ?_)
     ·have h := cond_t hb93 h
      refine yyy hn 1 [2] ?_
      refine ht_ret ?_
      refine pt_r_then ?_
      refine pt_r_in ?_
      refine pt_r_then ?_
      refine pt_r_then ?_
      refine pt_r_in ?_
      refine pt_r_then ?_
      have h := hr88 _ (ho89 _ (zi h).symm).symm
      obtain rfl := zi h
      exact pt_ret hio rfl (.tmp _ _ .nil) rfl rfl
     ·have h := cond_f hb93 h
      refine ht_skip ?_
      refine pt_then ?_
      refine yyy hn 1 [0,4,3,5] ?_
      refine ht_loopS h (fun ((s98,s99) : Int × Int) => [(0,.fr .shr true 8 (flatten (map T_Mail.ienc l))),(4,vi s67),(3,vi s98),(5,vi s99)]) (fun (s101 : Int) => [(0,.fr .shr true 8 (flatten (map T_Mail.ienc l))),(4,vi s67),(3,vi s101)]) ?_ ?_
      ·rintro s101 h
       refine pt_inb ?_
       refine pt_then ?_
       obtain ⟨v46, hv46, h⟩ := zn h
       refine yx hn 1 ?_
       refine ys 0 ⟨lb hv46⟩ ?_
       refine yw [4] 1 ?_
       refine ye [0,3,4] ?_
       exact pt_next _ (zi h).symm rfl
      ·rintro u102 hl103 hr104 ⟨s98, s99⟩ rr107 h ho105
       refine ht_seq ?_
       refine ht_seq ?_
       obtain ⟨v18, hv18, h⟩ := zn h
       obtain ⟨v19, hv19, h⟩ := zn h
       refine yx hn 3 ?_
       refine ys 1 ⟨lI hv18⟩ ?_
       refine yS (.fl .shr 3 (flatten (map T_Path.enc v19.To))) 2 ⟨op_load_fr _ _ _ _ _ _ _ underlying25 rfl rfl rfl (gflat_cell T_Mail.ilen hv19 rfl) (.fl _ _ rfl)⟩ ?_
       refine yee [0,4,3,5,60] ?_
       refine ht_cond _ rfl (fun hb108 => ?_) (fun hb108 => ?_)
       ·have h := cond_t hb108 h
        refine ht_skip ?_
        refine pt_then (ht_seq ?_)
        refine ht_block ?_
        obtain ⟨v21, hv21, h⟩ := zn h
        obtain ⟨v22, hv22, h⟩ := zn h
        obtain ⟨v23, hv23, h⟩ := zn h
        obtain ⟨v24, hv24, h⟩ := zn h
        obtain ⟨v25, hv25, h⟩ := zn h
        obtain ⟨v26, hv26, h⟩ := zn h
        obtain ⟨v27, hv27, h⟩ := zn h
        obtain ⟨v28, hv28, h⟩ := zn h
        obtain ⟨v29, hv29, h⟩ := zn h
        obtain ⟨v30, hv30, h⟩ := zn h
        refine wb [[3],[0],[4]] ?_
        refine wN [64,65] ?_
        refine wo [[66,64]] ⟨lI hv21⟩ ?_
        refine wN [67,64] ?_
        refine wS (.fl .shr 3 (flatten (map T_Path.enc v22.To))) [[5]] ⟨op_load_fr _ _ _ _ _ _ _ underlying25 rfl rfl rfl (gflat_cell T_Mail.ilen hv22 rfl) (.fl _ _ rfl)⟩ ?_
        refine wN [68,69] ?_
        refine wo [[70,68]] ⟨lj hv23⟩ ?_
        refine wN [71,68] ?_
        refine wo [[72]] ⟨lL hv24⟩ ?_
        refine wN [63,73] ?_
        refine wo [[0],[4]] ⟨lb hv25⟩ ?_
        refine wN [75,76] ?_
        refine wo [[77,75]] ⟨lI hv26⟩ ?_
        refine wN [78,75] ?_
        refine wS (.fl .shr 3 (flatten (map T_Path.enc v27.To))) [[5]] ⟨op_load_fr _ _ _ _ _ _ _ underlying25 rfl rfl rfl (gflat_cell T_Mail.ilen hv27 rfl) (.fl _ _ rfl)⟩ ?_
        refine wN [79,80] ?_
        refine wo [[81,79]] ⟨lj hv28⟩ ?_
        refine wN [82,79] ?_
        refine wo [[83]] ⟨lL hv29⟩ ?_
        refine wN [74,84] ?_
        refine wo [] ⟨lb hv30⟩ ?_
        refine wK [3] [85] ?_
        refine wt [(3,vi v30)] [] ⟨LOp.drop [_] (op_assign _ _ _ _ rfl rfl)⟩ ?_
        refine we hn [0,4,5,3] ?_
        refine pt_inb ?_
        refine pt_then ?_
        obtain ⟨v31, hv31, h⟩ := zn h
        refine yx hn 1 ?_
        refine ys 0 ⟨lb hv31⟩ ?_
        refine yw [5] 1 ?_
        refine ye [0,4,3,5] ?_
        exact pt_next _ (zi h).symm rfl
       ·have h := cond_f hb108 h
        refine ht_exit ?_
        refine pt_x_then ?_
        refine pt_x_then ?_
        refine pt_x_in ?_
        refine pt_pick [0,1,2] (by kernel_rfl) (es' := [(_,_),(_,_),(_,_)]) rfl ?_
        exact hl103 _ (ho105 _ (zi h).symm).symm
    ·have h := cond_f hb92 h
     refine ht_exit ?_
     refine pt_x_then ?_
     refine pt_x_then ?_
     refine pt_x_in ?_
     refine pt_pick [1] (by kernel_rfl) (es' := [(_,_)]) rfl ?_
     exact hl87 _ (ho89 _ (zi h).symm).symm
theorem ok_wherrylaw18_Heavy (l : (List T_Rec)) (r : Bool) (h : Sh.wherrylaw18_Heavy l = some r) : FnOK Tryz.prog 6 [.fr .shr true 15 (flatten (map T_Rec.ienc l))] (.v (.bool r)) := by
  unfold Sh.wherrylaw18_Heavy at h
  refine yO 38 func6 fun g0 hn hio => ?_
  refine yyy hn 1 [0] ?_
  refine ht_seq ?_
  refine yyy hn 3 [0,6] ?_
  refine ht_cond _ rfl (fun hb1 => ?_) (fun hb1 => ?_)
  ·have h := cond_t hb1 h
   refine yyy hn 1 [2] ?_
   refine ht_ret ?_
   refine pt_r_then ?_
   obtain rfl := zi h
   exact pt_ret hio rfl (.tmp _ _ .nil) rfl rfl
  ·have h := cond_f hb1 h
   refine ht_skip ?_
   refine pt_then (ht_seq ?_)
   refine yyy hn 1 [0,3] ?_
   refine ht_loopS h (fun (s23 : Int) => [(0,.fr .shr true 15 (flatten (map T_Rec.ienc l))),(3,vi s23)]) (fun (() : Unit) => []) ?_ ?_
   ·rintro ⟨⟩ h
    refine pt_then ?_
    refine yyy hn 1 [2] ?_
    refine ht_ret ?_
    obtain rfl := zi h
    exact pt_ret hio rfl (.tmp _ _ .nil) rfl rfl
   ·rintro u30 hl31 hr32 s23 rr35 h ho33
    refine ht_seq ?_
    refine yyy hn 4 [0,3,10] ?_
    refine ht_cond _ rfl (fun hb36 => ?_) (fun hb36 => ?_)
    ·have h := cond_t hb36 h
     refine ht_skip ?_
     refine pt_then (ht_seq ?_)
     refine ht_block ?_
     refine ht_seq ?_
     refine ht_joinS h (fun (s37 : Bool) => [(0,.fr .shr true 15 (flatten (map T_Rec.ienc l))),(3,vi s23),(37,vb s37)]) ?_ ?_
     ·rintro s37 h
      refine pt_then ?_
      refine ht_cond _ rfl (fun hb41 => ?_) (fun hb41 => ?_)
      ·have h := cond_t hb41 h
       refine yyy hn 1 [2] ?_
       refine ht_ret ?_
       refine pt_r_in ?_
       refine pt_r_then ?_
       refine pt_r_then ?_
       refine pt_r_in ?_
       refine pt_r_then ?_
       have h := hr32 _ (ho33 _ (zi h).symm).symm
       obtain rfl := zi h
       exact pt_ret hio rfl (.tmp _ _ .nil) rfl rfl
      ·have h := cond_f hb41 h
       refine ht_skip ?_
       refine pt_inb ?_
       refine pt_then ?_
       obtain ⟨v15, hv15, h⟩ := zn h
       refine yx hn 1 ?_
       refine ys 0 ⟨lb hv15⟩ ?_
       refine yw [3] 1 ?_
       refine ye [0,3] ?_
       exact pt_next _ (zi h).symm rfl
     ·intro u38 h hl39 hr40
      obtain ⟨v3, hv3, h⟩ := zn h
      obtain ⟨v4, hv4, h⟩ := zn h
      refine cond_some h (fun hg6_7 h => ?_) (fun hg6_7 h => ?_)
      ·refine yx hn 2 ?_
       refine ys 1 ⟨lI hv3⟩ ?_
       refine yS (fb v4.Data) 3 ⟨op_load_fr _ _ _ _ _ _ _ underlying26 rfl rfl rfl (gflat_cell T_Rec.ilen hv4 rfl) (.fl _ _ rfl)⟩ ?_
       refine yd hg6_7 17 ?_
       refine ye [0,3,37] ?_
       exact hl39 _ (zi h).symm
      ·obtain ⟨v5, hv5, h⟩ := zn h
       obtain ⟨v6, hv6, h⟩ := zn h
       refine cond_some h (fun hg6_16 h => ?_) (fun hg6_16 h => ?_)
       ·refine yx hn 2 ?_
        refine ys 1 ⟨lI hv3⟩ ?_
        refine yS (fb v4.Data) 3 ⟨op_load_fr _ _ _ _ _ _ _ underlying26 rfl rfl rfl (gflat_cell T_Rec.ilen hv4 rfl) (.fl _ _ rfl)⟩ ?_
        refine yd hg6_7 2 ?_
        refine ys 1 ⟨lI hv5⟩ ?_
        refine yS (fi v6.Ids) 4 ⟨op_load_fr _ _ _ _ _ _ _ underlying29 rfl rfl rfl (gflat_cell T_Rec.ilen hv6 rfl) (.fl _ _ rfl)⟩ ?_
        refine yd hg6_16 8 ?_
        refine ye [0,3,37] ?_
        exact hl39 _ (zi h).symm
       ·obtain ⟨v7, hv7, h⟩ := zn h
        obtain ⟨v8, hv8, h⟩ := zn h
        obtain ⟨v9, hv9, h⟩ := zn h
        refine yx hn 2 ?_
        refine ys 1 ⟨lI hv3⟩ ?_
        refine yS (fb v4.Data) 3 ⟨op_load_fr _ _ _ _ _ _ _ underlying26 rfl rfl rfl (gflat_cell T_Rec.ilen hv4 rfl) (.fl _ _ rfl)⟩ ?_
        refine yd hg6_7 2 ?_
        refine ys 1 ⟨lI hv5⟩ ?_
        refine yS (fi v6.Ids) 4 ⟨op_load_fr _ _ _ _ _ _ _ underlying29 rfl rfl rfl (gflat_cell T_Rec.ilen hv6 rfl) (.fl _ _ rfl)⟩ ?_
        refine yd hg6_16 2 ?_
        refine ys 1 ⟨lI hv7⟩ ?_
        refine yS (.agg (T_Mail.c v8.Mail [])) 0 ⟨op_loadA_fr _ _ _ _ _ _ _ _ underlying28 rfl sz28 rfl rfl (gflat_seg T_Rec.ilen hv8 (zl rfl) rfl) (.cons (.v _) (.cons (.v _) (.cons (.v _) (.cons (.fl _ _ rfl) (.cons (.fl _ _ rfl) (.cons (.v _) (.cons (.v _) (.cons (.v _) (.nil))))))))) rfl (by decide)⟩ ?_
        refine yS (.fr (.own 28) true 8 (flatten (map T_Mail.ienc [(T_Mail.mk (T_Path.mk v8.Mail.From.Null v8.Mail.From.Local v8.Mail.From.Domain) v8.Mail.To v8.Mail.Body v8.Mail.Quiet v8.Mail.Helo v8.Mail.At)]))) 0 ⟨op_build1_fr _ _ _ 8 (.agg #[.bool false,.string ByteArray.empty,.string ByteArray.empty,.slice none 0 0,.slice none 0 0,.bool false,.string ByteArray.empty,.int .i64 0]) true _ _ underlying54 sz28 zr28 rfl rfl (.cons (.v _) (.cons (.v _) (.cons (.v _) (.cons (.shr _ _ rfl rfl) (.cons (.shr _ _ rfl rfl) (.cons (.v _) (.cons (.v _) (.cons (.v _) (.nil))))))))) rfl (by decide) (by decide)⟩ ?_
        refine ys 1 ⟨lk call20 (ok_wherrylaw17_Heavy _ _ hv9)⟩ ?_
        refine ye [0,3,37] ?_
        exact hl39 _ (zi h).symm
    ·have h := cond_f hb36 h
     refine ht_exit ?_
     refine pt_x_then ?_
     refine pt_x_then ?_
     refine pt_x_in ?_
     refine pt_pick [] (by kernel_rfl) (es' := []) rfl ?_
     exact hl31 _ (ho33 _ (zi h).symm).symm
theorem ok_wherryref18_Nothing (r : T_Spool) (h : Sh.wherryref18_Nothing  = some r) : FnOK Tryz.prog 27 [] (.agg [.fr (.own 47) false 11 (flatten (map T_Item.ienc r.Items)), .v (.int .i64 r.Packs), .fl (.own 3) 1 (map (int .i64) r.Sent), .fl (.own 5) 1 (map (int .u8) r.Part), .v (.int .i64 r.Of), .fl (.own 3) 1 (map (int .i64) r.Done)]) := by
  unfold Sh.wherryref18_Nothing at h
  refine yO 2 func27 fun g0 hn hio => ?_
  refine yxx hn 0 ?_
  refine yS (.box 37 [vz,vi 0,vz,vz,vi 0,vz]) 0 ⟨oA (op_alloc _ _ zr37)⟩ ?_
  refine yee [0] ?_
  refine yxx hn 0 ?_
  refine yS (.agg [vz,vi 0,vz,vz,vi (-1),vz]) 1 ⟨op_build _ _ _ _ [1,1,1,1,1,1] _ _ underlying37 zr37 (fs37 _ underlying37) (.copy _ Src.nil) rfl rfl rfl⟩ ?_
  refine yee [0] ?_
  refine ht_ret ?_
  refine pt_sub (fs := [(0,.box 37 [.fr (.own 47) false 11 (flatten (map T_Item.ienc [])),vi 0,.fl (.own 3) 1 (map (int .i64) []),.fl (.own 5) 1 (map (int .u8) []),vi (-1),.fl (.own 3) 1 (map (int .i64) [])])]) (.box _ _ (subs_cons (sub_nil_fr 47 false 11) (subs_cons (sub_refl _) (subs_cons (sub_nil 3 1) (subs_cons (sub_nil 5 1) (subs_cons (sub_refl _) (subs_cons (sub_nil 3 1) (subs_nil))))))) rfl .nil) ?_
  obtain rfl := zi h
  exact pt_ret hio rfl (.cellA _ _ _ _ underlying37 rfl sz37 .nil) rfl rfl
theorem ok_wherrykeep_TwinInts (l : (List Int)) (r : (List Int)) (h : Sh.wherrykeep_TwinInts l = some r) : FnOK Tryz.prog 22 [.fl .shr 1 (map (int .i64) l)] (.fl (.own 3) 1 (map (int .i64) r)) := by
  unfold Sh.wherrykeep_TwinInts at h
  refine yO 7 func22 fun g0 hn hio => ?_
  refine yyy hn 1 [0] ?_
  refine yyy hn 1 [0,3] ?_
  refine ht_seq ?_
  obtain ⟨v1, hv1, h⟩ := zn h
  refine yx hn 2 ?_
  refine yS (.fl (.own 3) 1 (map (int .i64) v1)) 0 ⟨op_app_nil _ _ _ _ el29 rfl rfl (map_len _) hv1 (congrArg (map _) (app_nil_eq hv1))⟩ ?_
  refine ya 0 ?_
  refine yee [2] ?_
  refine ht_ret ?_
  obtain rfl := zi h
  exact pt_ret hio rfl (.tmp _ _ .nil) rfl rfl
theorem ok_wherrykeep_Twin (l : (List Int)) (r : (List Int)) (h : Sh.wherrykeep_Twin l = some r) : FnOK Tryz.prog 23 [.fl .shr 1 (map (int .u8) l)] (.fl (.own 5) 1 (map (int .u8) r)) := by
  unfold Sh.wherrykeep_Twin at h
  refine yO 7 func23 fun g0 hn hio => ?_
  refine yyy hn 1 [0] ?_
  refine yyy hn 1 [0,3] ?_
  refine ht_seq ?_
  obtain ⟨v1, hv1, h⟩ := zn h
  refine yx hn 2 ?_
  refine yS (.fl (.own 5) 1 (map (int .u8) v1)) 0 ⟨op_app_nil _ _ _ _ el26 rfl rfl (map_len _) hv1 (congrArg (map _) (app_nil_eq hv1))⟩ ?_
  refine ya 0 ?_
  refine yee [2] ?_
  refine ht_ret ?_
  obtain rfl := zi h
  exact pt_ret hio rfl (.tmp _ _ .nil) rfl rfl
theorem ok_wherrykeep_TwinPaths (l : (List T_Path)) (r : (List T_Path)) (h : Sh.wherrykeep_TwinPaths l = some r) : FnOK Tryz.prog 39 [.fl .shr 3 (flatten (map T_Path.enc l))] (.fl (.own 24) 3 (flatten (map T_Path.enc r))) := by
  unfold Sh.wherrykeep_TwinPaths at h
  refine yO 7 func39 fun g0 hn hio => ?_
  refine yyy hn 1 [0] ?_
  refine yyy hn 1 [0,3] ?_
  refine ht_seq ?_
  obtain ⟨v1, hv1, h⟩ := zn h
  refine yx hn 2 ?_
  refine yS (.fl (.own 24) 3 (flatten (map T_Path.enc v1))) 0 ⟨op_app_nil _ _ _ _ el25 rfl rfl (flat_len T_Path.len _) hv1 (congrArg (fun l => flatten (map _ l)) (app_nil_eq hv1))⟩ ?_
  refine ya 0 ?_
  refine yee [2] ?_
  refine ht_ret ?_
  obtain rfl := zi h
  exact pt_ret hio rfl (.tmp _ _ .nil) rfl rfl
theorem ok_wherrykeep_TwinMail (m : T_Mail) (r : T_Mail) (h : Sh.wherrykeep_TwinMail m = some r) : FnOK Tryz.prog 21 [.agg [.v (.bool m.From.Null), .v (.string m.From.Local), .v (.string m.From.Domain), .fl .shr 3 (flatten (map T_Path.enc m.To)), .fl .shr 1 (map (int .u8) m.Body), .v (.bool m.Quiet), .v (.string m.Helo), .v (.int .i64 m.At)]] (.agg [.v (.bool r.From.Null), .v (.string r.From.Local), .v (.string r.From.Domain), .fl (.own 24) 3 (flatten (map T_Path.enc r.To)), .fl (.own 5) 1 (map (int .u8) r.Body), .v (.bool r.Quiet), .v (.string r.Helo), .v (.int .i64 r.At)]) := by
  unfold Sh.wherrykeep_TwinMail at h
  refine yO 12 func21 fun g0 hn hio => ?_
  refine yxx hn 1 ?_
  refine yS (.box 28 [vb false,vs z0,vs z0,vz,vz,vb false,vs z0,vi 0]) 0 ⟨oA (op_alloc _ _ zr28)⟩ ?_
  refine yee [1,2] ?_
  refine ht_seq ?_
  obtain ⟨v1, hv1, h⟩ := zn h
  obtain ⟨v2, hv2, h⟩ := zn h
  refine wb [[1],[3,1]] ?_
  refine wN [4] ?_
  refine wo [[1],[6,1]] ⟨lk call39 (ok_wherrykeep_TwinPaths _ _ hv1)⟩ ?_
  refine wN [7] ?_
  refine wo [[1]] ⟨lk call23 (ok_wherrykeep_Twin _ _ hv2)⟩ ?_
  refine wK [5,1] [9] ?_
  refine wt [(1,.box 28 [vb m.From.Null,vs m.From.Local,vs m.From.Domain,.fl (.own 24) 3 (flatten (map T_Path.enc v1)),fb m.Body,vb m.Quiet,vs m.Helo,vi m.At])] [[1]] ⟨op_store_take _ _ _ _ _ _ _ _ sz25 rfl rfl rfl (zl rfl) rfl rfl⟩ ?_
  refine wK [8,1] [10] ?_
  refine wt [(1,.box 28 [vb m.From.Null,vs m.From.Local,vs m.From.Domain,.fl (.own 24) 3 (flatten (map T_Path.enc v1)),.fl (.own 5) 1 (map (int .u8) v2),vb m.Quiet,vs m.Helo,vi m.At])] [] ⟨op_store_take _ _ _ _ _ _ _ _ sz26 rfl rfl rfl (zl rfl) rfl rfl⟩ ?_
  refine wee hn [1,2] ?_
  refine yxx hn 0 ?_
  refine yk [1] [] ?_
  refine yt (11,.agg [vb m.From.Null,vs m.From.Local,vs m.From.Domain,.fl (.own 24) 3 (flatten (map T_Path.enc v1)),.fl (.own 5) 1 (map (int .u8) v2),vb m.Quiet,vs m.Helo,vi m.At]) 0 ⟨op_loadA_take _ _ _ _ underlying28 rfl sz28 rfl rfl⟩ ?_
  refine yk [11,2] [] ?_
  refine yt (2,.box 28 [vb m.From.Null,vs m.From.Local,vs m.From.Domain,.fl (.own 24) 3 (flatten (map T_Path.enc v1)),.fl (.own 5) 1 (map (int .u8) v2),vb m.Quiet,vs m.Helo,vi m.At]) 0 ⟨op_store_take _ _ _ _ _ _ _ _ sz28 rfl rfl rfl (zl rfl) rfl rfl⟩ ?_
  refine yee [2] ?_
  refine ht_ret ?_
  obtain rfl := zi h
  exact pt_ret hio rfl (.cellA _ _ _ _ underlying28 rfl sz28 .nil) rfl rfl
theorem ok_wherrykeep_TwinSpool (s : T_Spool) (r : T_Spool) (h : Sh.wherrykeep_TwinSpool s = some r) : FnOK Tryz.prog 34 [.agg [.fr .shr true 11 (flatten (map T_Item.ienc s.Items)), .v (.int .i64 s.Packs), .fl .shr 1 (map (int .i64) s.Sent), .fl .shr 1 (map (int .u8) s.Part), .v (.int .i64 s.Of), .fl .shr 1 (map (int .i64) s.Done)]] (.agg [.fr (.own 47) false 11 (flatten (map T_Item.ienc r.Items)), .v (.int .i64 r.Packs), .fl (.own 3) 1 (map (int .i64) r.Sent), .fl (.own 5) 1 (map (int .u8) r.Part), .v (.int .i64 r.Of), .fl (.own 3) 1 (map (int .i64) r.Done)]) := by
  unfold Sh.wherrykeep_TwinSpool at h
  refine yO 43 func34 fun g0 hn hio => ?_
  refine yxx hn 1 ?_
  refine yS (.box 37 [vz,vi 0,vz,vz,vi 0,vz]) 0 ⟨oA (op_alloc _ _ zr37)⟩ ?_
  refine yee [1,2] ?_
  refine ht_seq ?_
  obtain ⟨v1, hv1, h⟩ := zn h
  obtain ⟨v2, hv2, h⟩ := zn h
  obtain ⟨v3, hv3, h⟩ := zn h
  refine wb [[1],[6,1],[1],[8,1]] ?_
  refine wN [9] ?_
  refine wo [[1],[11,1]] ⟨lk call22 (ok_wherrykeep_TwinInts _ _ hv1)⟩ ?_
  refine wN [12] ?_
  refine wo [[1],[14,1],[1],[16,1]] ⟨lk call23 (ok_wherrykeep_Twin _ _ hv2)⟩ ?_
  refine wN [17] ?_
  refine wo [] ⟨lk call22 (ok_wherrykeep_TwinInts _ _ hv3)⟩ ?_
  refine wK [10,13,18] [7,15] ?_
  refine wt [(19,.agg [vz,vi s.Packs,.fl (.own 3) 1 (map (int .i64) v1),.fl (.own 5) 1 (map (int .u8) v2),vi s.Of,.fl (.own 3) 1 (map (int .i64) v3)])] [] ⟨op_build _ _ _ _ [1,1,1,1,1,1] _ _ underlying37 zr37 (fs37 _ underlying37) (.copy _ (.take _ _ (.take _ _ (.copy _ (.take _ _ Src.nil))))) rfl rfl rfl⟩ ?_
  refine wN [] ?_
  refine wS (.box 37 [vz,vi 0,vz,vz,vi 0,vz]) [] ⟨oA (op_alloc _ _ zr37)⟩ ?_
  refine wK [19,3] [] ?_
  refine wt [(3,.box 37 [vz,vi s.Packs,.fl (.own 3) 1 (map (int .i64) v1),.fl (.own 5) 1 (map (int .u8) v2),vi s.Of,.fl (.own 3) 1 (map (int .i64) v3)])] [] ⟨op_store_take _ _ _ _ _ _ _ _ sz37 rfl rfl rfl (zl rfl) rfl rfl⟩ ?_
  refine wee hn [1,2,3] ?_
  refine ht_seq ?_
  refine yyy hn 1 [1,2,3,4] ?_
  refine ht_sub (fs := [(1,.box 37 (T_Spool.c s [])),(2,.box 37 [vz,vi 0,vz,vz,vi 0,vz]),(3,.box 37 [.fr (.own 47) false 11 (flatten (map T_Item.ienc [])),vi s.Packs,.fl (.own 3) 1 (map (int .i64) v1),.fl (.own 5) 1 (map (int .u8) v2),vi s.Of,.fl (.own 3) 1 (map (int .i64) v3)]),(4,vi 0)]) (.same _ (.same _ (.box _ _ (subs_cons (sub_nil_fr 47 false 11) (subs_cons (sub_refl _) (subs_cons (sub_refl _) (subs_cons (sub_refl _) (subs_cons (sub_refl _) (subs_cons (sub_refl _) (subs_nil))))))) rfl (.same _ .nil)))) ?_
  refine ht_loopS h (fun ((s13,s14) : (List T_Item) × Int) => [(1,.box 37 (T_Spool.c s [])),(2,.box 37 [vz,vi 0,vz,vz,vi 0,vz]),(3,.box 37 [.fr (.own 47) false 11 (flatten (map T_Item.ienc s13)),vi s.Packs,.fl (.own 3) 1 (map (int .i64) v1),.fl (.own 5) 1 (map (int .u8) v2),vi s.Of,.fl (.own 3) 1 (map (int .i64) v3)]),(4,vi s14)]) (fun (s16 : (List T_Item)) => [(2,.box 37 [vz,vi 0,vz,vz,vi 0,vz]),(3,.box 37 [.fr (.own 47) false 11 (flatten (map T_Item.ienc s16)),vi s.Packs,.fl (.own 3) 1 (map (int .i64) v1),.fl (.own 5) 1 (map (int .u8) v2),vi s.Of,.fl (.own 3) 1 (map (int .i64) v3)])]) ?_ ?_
  ·rintro s16 h
   refine pt_then ?_
   refine yxx hn 0 ?_
   refine yk [3] [] ?_
   refine yt (42,.agg [.fr (.own 47) false 11 (flatten (map T_Item.ienc s16)),vi s.Packs,.fl (.own 3) 1 (map (int .i64) v1),.fl (.own 5) 1 (map (int .u8) v2),vi s.Of,.fl (.own 3) 1 (map (int .i64) v3)]) 0 ⟨op_loadA_take _ _ _ _ underlying37 rfl sz37 rfl rfl⟩ ?_
   refine yk [42,2] [] ?_
   refine yt (2,.box 37 [.fr (.own 47) false 11 (flatten (map T_Item.ienc s16)),vi s.Packs,.fl (.own 3) 1 (map (int .i64) v1),.fl (.own 5) 1 (map (int .u8) v2),vi s.Of,.fl (.own 3) 1 (map (int .i64) v3)]) 0 ⟨op_store_take _ _ _ _ _ _ _ _ sz37 rfl rfl rfl (zl rfl) rfl rfl⟩ ?_
   refine yee [2] ?_
   refine ht_ret ?_
   obtain rfl := zi h
   exact pt_ret hio rfl (.cellA _ _ _ _ underlying37 rfl sz37 .nil) rfl rfl
  ·rintro u17 hl18 hr19 ⟨s13, s14⟩ rr22 h ho20
   refine ht_seq ?_
   refine yyy hn 5 [1,2,3,4,24] ?_
   refine ht_cond _ rfl (fun hb23 => ?_) (fun hb23 => ?_)
   ·have h := cond_t hb23 h
    refine ht_skip ?_
    refine pt_then (ht_seq ?_)
    refine ht_block ?_
    refine ht_seq ?_
    obtain ⟨v5, hv5, h⟩ := zn h
    obtain ⟨v6, hv6, h⟩ := zn h
    refine yx hn 3 ?_
    refine ys 0 ⟨lI hv5⟩ ?_
    refine yS (.agg (T_Item.c v6 [])) 0 ⟨op_loadA_fr _ _ _ _ _ _ _ _ underlying47 rfl sz47 rfl rfl (gflat_get T_Item.ilen hv6) (.cons (.v _) (.cons (.v _) (.cons (.v _) (.cons (.v _) (.cons (.fl _ _ rfl) (.cons (.fl _ _ rfl) (.cons (.v _) (.cons (.v _) (.cons (.v _) (.cons (.v _) (.cons (.v _) (.nil)))))))))))) rfl (by decide)⟩ ?_
    refine yS (.box 47 [vi 0,vb false,vs z0,vs z0,vz,vz,vb false,vs z0,vi 0,vi 0,vi 0]) 1 ⟨oA (op_alloc _ _ zr47)⟩ ?_
    refine yee [1,2,3,4,5] ?_
    refine ht_seq ?_
    obtain ⟨v7, hv7, h⟩ := zn h
    refine yx hn 2 ?_
    refine ys 1 ⟨lk call21 (ok_wherrykeep_TwinMail _ _ hv7)⟩ ?_
    refine yk [34,5] [35] ?_
    refine yt (5,.box 47 [vi v6.Id,vb v7.From.Null,vs v7.From.Local,vs v7.From.Domain,.fl (.own 24) 3 (flatten (map T_Path.enc v7.To)),.fl (.own 5) 1 (map (int .u8) v7.Body),vb v7.Quiet,vs v7.Helo,vi v7.At,vi v6.State,vi v6.Pack]) 0 ⟨op_store_take _ _ _ _ _ _ _ _ sz28 rfl rfl rfl (zl rfl) rfl rfl⟩ ?_
    refine yee [1,2,3,4,5] ?_
    obtain ⟨v8, hv8, h⟩ := zn h
    refine yx hn 2 ?_
    refine yk [5] [] ?_
    refine yt (38,.agg [vi v6.Id,vb v7.From.Null,vs v7.From.Local,vs v7.From.Domain,.fl (.own 24) 3 (flatten (map T_Path.enc v7.To)),.fl (.own 5) 1 (map (int .u8) v7.Body),vb v7.Quiet,vs v7.Helo,vi v7.At,vi v6.State,vi v6.Pack]) 0 ⟨op_loadA_take _ _ _ _ underlying47 rfl sz47 rfl rfl⟩ ?_
    refine yk [38] [] ?_
    refine yt (39,.fr (.own 47) false 11 (flatten (map T_Item.ienc [(T_Item.mk v6.Id ((T_Mail.mk (T_Path.mk v7.From.Null v7.From.Local v7.From.Domain) v7.To v7.Body v7.Quiet v7.Helo v7.At)) v6.State v6.Pack)]))) 0 ⟨op_build1_fr_take _ _ _ 11 (.agg #[.int .i64 0,.bool false,.string ByteArray.empty,.string ByteArray.empty,.slice none 0 0,.slice none 0 0,.bool false,.string ByteArray.empty,.int .i64 0,.int .i64 0,.int .i64 0]) false _ _ underlying35 sz47 zr47 rfl (.cons (.v _) (.cons (.v _) (.cons (.v _) (.cons (.v _) (.cons (.ro _ _ rfl) (.cons (.ro _ _ rfl) (.cons (.v _) (.cons (.v _) (.cons (.v _) (.cons (.v _) (.cons (.v _) (.nil)))))))))))) rfl (by decide) (by decide)⟩ ?_
    refine yk [3] [37,39] ?_
    refine ytt (3,.box 37 [.any,vi s.Packs,.fl (.own 3) 1 (map (int .i64) v1),.fl (.own 5) 1 (map (int .u8) v2),vi s.Of,.fl (.own 3) 1 (map (int .i64) v3)]) (40,.fr (.own 47) false 11 (flatten (map T_Item.ienc v8))) 1 ⟨op_app_fr_cell _ 40 3 0 _ _ el35 rfl rfl (zl rfl) rfl (gflat_len T_Item.ilen _) (gflat_len T_Item.ilen _) hv8 (gflat_app (app_eq hv8)) (by decide) (by decide) (by decide) rfl rfl⟩ ?_
    refine yw [37] 0 ?_
    refine yk [40,3] [41] ?_
    refine yt (3,.box 37 [.fr (.own 47) false 11 (flatten (map T_Item.ienc v8)),vi s.Packs,.fl (.own 3) 1 (map (int .i64) v1),.fl (.own 5) 1 (map (int .u8) v2),vi s.Of,.fl (.own 3) 1 (map (int .i64) v3)]) 0 ⟨op_store_take _ _ _ _ _ _ _ _ sz35 rfl rfl rfl (zl rfl) rfl rfl⟩ ?_
    refine ye [1,2,3,4] ?_
    refine pt_inb ?_
    refine pt_then ?_
    obtain ⟨v9, hv9, h⟩ := zn h
    refine yx hn 1 ?_
    refine ys 0 ⟨lb hv9⟩ ?_
    refine yw [4] 1 ?_
    refine ye [1,2,3,4] ?_
    exact pt_next _ (zi h).symm rfl
   ·have h := cond_f hb23 h
    refine ht_exit ?_
    refine pt_x_then ?_
    refine pt_x_then ?_
    refine pt_x_in ?_
    refine pt_pick [1,2] (by kernel_rfl) (es' := [(_,_),(_,_)]) rfl ?_
    exact hl18 _ (ho20 _ (zi h).symm).symm
theorem ok_wherryref18_in (n : Int) (lo : Int) (hi : Int) (r : Bool) (h : Sh.wherryref18_in n lo hi = some r) : FnOK Tryz.prog 35 [.v (.int .i64 n), .v (.int .i64 lo), .v (.int .i64 hi)] (.v (.bool r)) := by
  unfold Sh.wherryref18_in at h
  refine yO 15 func35 fun g0 hn hio => ?_
  refine yyy hn 1 [0,1,2] ?_
  refine ht_seq ?_
  refine ht_joinS h (fun (s1 : Bool) => [(6,vb s1)]) ?_ ?_
  ·rintro s1 h
   refine pt_then (ht_ret ?_)
   obtain rfl := zi h
   exact pt_ret hio rfl (.tmp _ _ .nil) rfl rfl
  ·intro u2 h hl3 hr4
   refine cond_some h (fun hg1_3 h => ?_) (fun hg1_3 h => ?_)
   ·refine yx hn 4 ?_
    refine yd hg1_3 5 ?_
    refine ye [6] ?_
    exact hl3 _ (zi h).symm
   ·refine yx hn 4 ?_
    refine yd hg1_3 5 ?_
    refine ye [6] ?_
    exact hl3 _ (zi h).symm
theorem ok_wherryref11_in (n : Int) (lo : Int) (hi : Int) (r : Bool) (h : Sh.wherryref11_in n lo hi = some r) : FnOK Tryz.prog 76 [.v (.int .i64 n), .v (.int .i64 lo), .v (.int .i64 hi)] (.v (.bool r)) := by
  unfold Sh.wherryref11_in at h
  refine yO 15 func76 fun g0 hn hio => ?_
  refine yyy hn 1 [0,1,2] ?_
  refine ht_seq ?_
  refine ht_joinS h (fun (s1 : Bool) => [(6,vb s1)]) ?_ ?_
  ·rintro s1 h
   refine pt_then (ht_ret ?_)
   obtain rfl := zi h
   exact pt_ret hio rfl (.tmp _ _ .nil) rfl rfl
  ·intro u2 h hl3 hr4
   refine cond_some h (fun hg1_3 h => ?_) (fun hg1_3 h => ?_)
   ·refine yx hn 4 ?_
    refine yd hg1_3 5 ?_
    refine ye [6] ?_
    exact hl3 _ (zi h).symm
   ·refine yx hn 4 ?_
    refine yd hg1_3 5 ?_
    refine ye [6] ?_
    exact hl3 _ (zi h).symm
theorem ok_wherryref11_letter (c : Int) (r : Bool) (h : Sh.wherryref11_letter c = some r) : FnOK Tryz.prog 78 [.v (.int .u8 c)] (.v (.bool r)) := by
  unfold Sh.wherryref11_letter at h
  refine yO 17 func78 fun g0 hn hio => ?_
  refine yyy hn 1 [0] ?_
  refine ht_seq ?_
  refine ht_joinS h (fun (s1 : Bool) => [(2,vb s1)]) ?_ ?_
  ·rintro s1 h
   refine pt_then (ht_ret ?_)
   obtain rfl := zi h
   exact pt_ret hio rfl (.tmp _ _ .nil) rfl rfl
  ·intro u2 h hl3 hr4
   refine cond_some h (fun hg1_2 h => ?_) (fun hg1_2 h => ?_)
   ·refine cond_some h (fun hg1_6 h => ?_) (fun hg1_6 h => ?_)
    ·refine yx hn 3 ?_
     refine yd hg1_2 4 ?_
     refine yd hg1_6 8 ?_
     refine ye [2] ?_
     exact hl3 _ (zi h).symm
    ·refine cond_some h (fun hg1_9 h => ?_) (fun hg1_9 h => ?_)
     ·refine yx hn 3 ?_
      refine yd hg1_2 4 ?_
      refine yd hg1_6 3 ?_
      refine yd hg1_9 5 ?_
      refine ye [2] ?_
      exact hl3 _ (zi h).symm
     ·refine yx hn 3 ?_
      refine yd hg1_2 4 ?_
      refine yd hg1_6 3 ?_
      refine yd hg1_9 5 ?_
      refine ye [2] ?_
      exact hl3 _ (zi h).symm
   ·refine cond_some h (fun hg1_9 h => ?_) (fun hg1_9 h => ?_)
    ·refine yx hn 3 ?_
     refine yd hg1_2 7 ?_
     refine yd hg1_9 5 ?_
     refine ye [2] ?_
     exact hl3 _ (zi h).symm
    ·refine yx hn 3 ?_
     refine yd hg1_2 7 ?_
     refine yd hg1_9 5 ?_
     refine ye [2] ?_
     exact hl3 _ (zi h).symm
theorem ok_wherryref11_digit (c : Int) (r : Bool) (h : Sh.wherryref11_digit c = some r) : FnOK Tryz.prog 79 [.v (.int .u8 c)] (.v (.bool r)) := by
  unfold Sh.wherryref11_digit at h
  refine yO 9 func79 fun g0 hn hio => ?_
  refine yyy hn 1 [0] ?_
  refine ht_seq ?_
  refine ht_joinS h (fun (s1 : Bool) => [(2,vb s1)]) ?_ ?_
  ·rintro s1 h
   refine pt_then (ht_ret ?_)
   obtain rfl := zi h
   exact pt_ret hio rfl (.tmp _ _ .nil) rfl rfl
  ·intro u2 h hl3 hr4
   refine cond_some h (fun hg1_2 h => ?_) (fun hg1_2 h => ?_)
   ·refine yx hn 3 ?_
    refine yd hg1_2 4 ?_
    refine ye [2] ?_
    exact hl3 _ (zi h).symm
   ·refine yx hn 3 ?_
    refine yd hg1_2 4 ?_
    refine ye [2] ?_
    exact hl3 _ (zi h).symm
theorem ok_wherryref11_sign (c : Int) (r : Bool) (h : Sh.wherryref11_sign c = some r) : FnOK Tryz.prog 77 [.v (.int .u8 c)] (.v (.bool r)) := by
  unfold Sh.wherryref11_sign at h
  refine yO 24 func77 fun g0 hn hio => ?_
  refine yyy hn 1 [0] ?_
  refine ht_seq ?_
  refine ht_seq ?_
  refine ht_joinS h (fun (s3 : Bool) => [(0,.v (.int .u8 c)),(10,vb s3)]) ?_ ?_
  ·rintro s3 h
   refine pt_then ?_
   refine ht_cond _ rfl (fun hb7 => ?_) (fun hb7 => ?_)
   ·have h := cond_t hb7 h
    refine yyy hn 1 [2] ?_
    refine ht_ret ?_
    refine pt_r_then ?_
    obtain rfl := zi h
    exact pt_ret hio rfl (.tmp _ _ .nil) rfl rfl
   ·have h := cond_f hb7 h
    refine ht_skip ?_
    refine pt_then ?_
    refine yyy hn 1 [0,3] ?_
    refine ht_seq ?_
    refine yyy hn 1 [0,3,4] ?_
    refine ht_loopS h (fun (s15 : Int) => [(0,.v (.int .u8 c)),(3,vs (⟨#[33,35,36,37,38,39,42,43,45,47,61,63,94,95,123,124,125,126]⟩ : ByteArray)),(4,vi s15)]) (fun (() : Unit) => [(0,.v (.int .u8 c))]) ?_ ?_
    ·rintro ⟨⟩ h
     refine pt_then ?_
     refine yyy hn 3 [2] ?_
     refine ht_ret ?_
     obtain rfl := zi h
     exact pt_ret hio rfl (.tmp _ _ .nil) rfl rfl
    ·rintro u18 hl19 hr20 s15 rr23 h ho21
     refine ht_seq ?_
     refine yyy hn 4 [0,3,4,14] ?_
     refine ht_cond _ rfl (fun hb24 => ?_) (fun hb24 => ?_)
     ·have h := cond_t hb24 h
      refine ht_skip ?_
      refine pt_then (ht_seq ?_)
      refine ht_block ?_
      refine ht_seq ?_
      obtain ⟨v9, hv9, h⟩ := zn h
      refine yx hn 2 ?_
      refine ys 2 ⟨lh hv9⟩ ?_
      refine yee [0,3,4,21] ?_
      refine ht_cond _ rfl (fun hb25 => ?_) (fun hb25 => ?_)
      ·have h := cond_t hb25 h
       refine yyy hn 1 [2] ?_
       refine ht_ret ?_
       refine pt_r_in ?_
       refine pt_r_then ?_
       refine pt_r_then ?_
       refine pt_r_in ?_
       refine pt_r_then ?_
       have h := hr20 _ (ho21 _ (zi h).symm).symm
       obtain rfl := zi h
       exact pt_ret hio rfl (.tmp _ _ .nil) rfl rfl
      ·have h := cond_f hb25 h
       refine ht_skip ?_
       refine pt_inb ?_
       refine pt_then ?_
       obtain ⟨v11, hv11, h⟩ := zn h
       refine yx hn 1 ?_
       refine ys 0 ⟨lb hv11⟩ ?_
       refine yw [4] 1 ?_
       refine ye [0,3,4] ?_
       exact pt_next _ (zi h).symm rfl
     ·have h := cond_f hb24 h
      refine ht_exit ?_
      refine pt_x_then ?_
      refine pt_x_then ?_
      refine pt_x_in ?_
      refine pt_pick [0] (by kernel_rfl) (es' := [(_,_)]) rfl ?_
      exact hl19 _ (ho21 _ (zi h).symm).symm
  ·intro u4 h hl5 hr6
   obtain ⟨v1, hv1, h⟩ := zn h
   refine cond_some h (fun hg1_2 h => ?_) (fun hg1_2 h => ?_)
   ·refine yx hn 1 ?_
    refine ys 1 ⟨lk call78 (ok_wherryref11_letter _ _ hv1)⟩ ?_
    refine yd hg1_2 3 ?_
    refine ye [0,10] ?_
    exact hl5 _ (zi h).symm
   ·obtain ⟨v2, hv2, h⟩ := zn h
    refine yx hn 1 ?_
    refine ys 1 ⟨lk call78 (ok_wherryref11_letter _ _ hv1)⟩ ?_
    refine yd hg1_2 1 ?_
    refine ys 1 ⟨lk call79 (ok_wherryref11_digit _ _ hv2)⟩ ?_
    refine ye [0,10] ?_
    exact hl5 _ (zi h).symm
theorem ok_wherryref11_Local (s : ByteArray) (r : Bool) (h : Sh.wherryref11_Local s = some r) : FnOK Tryz.prog 69 [.v (.string s)] (.v (.bool r)) := by
  unfold Sh.wherryref11_Local at h
  refine yO 51 func69 fun g0 hn hio => ?_
  refine yyy hn 1 [0] ?_
  refine ht_seq ?_
  refine ht_seq ?_
  refine ht_joinS h (fun (s5 : Bool) => [(0,vs s),(20,vb s5)]) ?_ ?_
  ·rintro s5 h
   refine pt_then ?_
   refine ht_cond _ rfl (fun hb9 => ?_) (fun hb9 => ?_)
   ·have h := cond_t hb9 h
    refine yyy hn 1 [2] ?_
    refine ht_ret ?_
    refine pt_r_then ?_
    obtain rfl := zi h
    exact pt_ret hio rfl (.tmp _ _ .nil) rfl rfl
   ·have h := cond_f hb9 h
    refine ht_skip ?_
    refine pt_then (ht_seq ?_)
    refine yyy hn 1 [0,3] ?_
    refine ht_loopS h (fun (s33 : Int) => [(0,vs s),(3,vi s33)]) (fun (() : Unit) => []) ?_ ?_
    ·rintro ⟨⟩ h
     refine pt_then ?_
     refine yyy hn 1 [2] ?_
     refine ht_ret ?_
     obtain rfl := zi h
     exact pt_ret hio rfl (.tmp _ _ .nil) rfl rfl
    ·rintro u40 hl41 hr42 s33 rr45 h ho43
     refine ht_seq ?_
     refine yyy hn 4 [0,3,24] ?_
     refine ht_cond _ rfl (fun hb46 => ?_) (fun hb46 => ?_)
     ·have h := cond_t hb46 h
      refine ht_skip ?_
      refine pt_then (ht_seq ?_)
      refine ht_block ?_
      refine ht_seq ?_
      refine ht_joinS h (fun (s47 : Bool) => [(0,vs s),(3,vi s33),(50,vb s47)]) ?_ ?_
      ·rintro s47 h
       refine pt_then ?_
       refine ht_cond _ rfl (fun hb51 => ?_) (fun hb51 => ?_)
       ·have h := cond_t hb51 h
        refine yyy hn 1 [2] ?_
        refine ht_ret ?_
        refine pt_r_in ?_
        refine pt_r_then ?_
        refine pt_r_then ?_
        refine pt_r_in ?_
        refine pt_r_then ?_
        have h := hr42 _ (ho43 _ (zi h).symm).symm
        obtain rfl := zi h
        exact pt_ret hio rfl (.tmp _ _ .nil) rfl rfl
       ·have h := cond_f hb51 h
        refine ht_skip ?_
        refine pt_inb ?_
        refine pt_then ?_
        obtain ⟨v25, hv25, h⟩ := zn h
        refine yx hn 1 ?_
        refine ys 0 ⟨lb hv25⟩ ?_
        refine yw [3] 1 ?_
        refine ye [0,3] ?_
        exact pt_next _ (zi h).symm rfl
      ·intro u48 h hl49 hr50
       obtain ⟨v11, hv11, h⟩ := zn h
       refine cond_some h (fun hg6_4 h => ?_) (fun hg6_4 h => ?_)
       ·obtain ⟨v12, hv12, h⟩ := zn h
        obtain ⟨v13, hv13, h⟩ := zn h
        refine cond_some h (fun hg6_11 h => ?_) (fun hg6_11 h => ?_)
        ·refine yx hn 2 ?_
         refine ys 2 ⟨lh hv11⟩ ?_
         refine yd hg6_4 2 ?_
         refine ys 0 ⟨lb hv12⟩ ?_
         refine ys 3 ⟨lh hv13⟩ ?_
         refine yd hg6_11 12 ?_
         refine ye [0,3,50] ?_
         exact hl49 _ (zi h).symm
        ·obtain ⟨v14, hv14, h⟩ := zn h
         refine cond_some h (fun hg6_16 h => ?_) (fun hg6_16 h => ?_)
         ·obtain ⟨v15, hv15, h⟩ := zn h
          obtain ⟨v16, hv16, h⟩ := zn h
          refine yx hn 2 ?_
          refine ys 2 ⟨lh hv11⟩ ?_
          refine yd hg6_4 2 ?_
          refine ys 0 ⟨lb hv12⟩ ?_
          refine ys 3 ⟨lh hv13⟩ ?_
          refine yd hg6_11 2 ?_
          refine ys 2 ⟨lh hv14⟩ ?_
          refine yd hg6_16 2 ?_
          refine ys 0 ⟨lh hv15⟩ ?_
          refine ys 3 ⟨lk call77 (ok_wherryref11_sign _ _ hv16)⟩ ?_
          refine ye [0,3,50] ?_
          exact hl49 _ (zi h).symm
         ·refine yx hn 2 ?_
          refine ys 2 ⟨lh hv11⟩ ?_
          refine yd hg6_4 2 ?_
          refine ys 0 ⟨lb hv12⟩ ?_
          refine ys 3 ⟨lh hv13⟩ ?_
          refine yd hg6_11 2 ?_
          refine ys 2 ⟨lh hv14⟩ ?_
          refine yd hg6_16 7 ?_
          refine ye [0,3,50] ?_
          exact hl49 _ (zi h).symm
       ·obtain ⟨v17, hv17, h⟩ := zn h
        refine cond_some h (fun hg6_16 h => ?_) (fun hg6_16 h => ?_)
        ·obtain ⟨v18, hv18, h⟩ := zn h
         obtain ⟨v19, hv19, h⟩ := zn h
         refine yx hn 2 ?_
         refine ys 2 ⟨lh hv11⟩ ?_
         refine yd hg6_4 9 ?_
         refine ys 2 ⟨lh hv17⟩ ?_
         refine yd hg6_16 2 ?_
         refine ys 0 ⟨lh hv18⟩ ?_
         refine ys 3 ⟨lk call77 (ok_wherryref11_sign _ _ hv19)⟩ ?_
         refine ye [0,3,50] ?_
         exact hl49 _ (zi h).symm
        ·refine yx hn 2 ?_
         refine ys 2 ⟨lh hv11⟩ ?_
         refine yd hg6_4 9 ?_
         refine ys 2 ⟨lh hv17⟩ ?_
         refine yd hg6_16 7 ?_
         refine ye [0,3,50] ?_
         exact hl49 _ (zi h).symm
     ·have h := cond_f hb46 h
      refine ht_exit ?_
      refine pt_x_then ?_
      refine pt_x_then ?_
      refine pt_x_in ?_
      refine pt_pick [] (by kernel_rfl) (es' := []) rfl ?_
      exact hl41 _ (ho43 _ (zi h).symm).symm
  ·intro u6 h hl7 hr8
   obtain ⟨v1, hv1, h⟩ := zn h
   refine cond_some h (fun hg1_4 h => ?_) (fun hg1_4 h => ?_)
   ·refine yx hn 2 ?_
    refine ys 2 ⟨lk call76 (ok_wherryref11_in _ _ _ _ hv1)⟩ ?_
    refine yd hg1_4 12 ?_
    refine ye [0,20] ?_
    exact hl7 _ (zi h).symm
   ·obtain ⟨v2, hv2, h⟩ := zn h
    refine cond_some h (fun hg1_9 h => ?_) (fun hg1_9 h => ?_)
    ·refine yx hn 2 ?_
     refine ys 2 ⟨lk call76 (ok_wherryref11_in _ _ _ _ hv1)⟩ ?_
     refine yd hg1_4 1 ?_
     refine ys 3 ⟨lh hv2⟩ ?_
     refine yd hg1_9 7 ?_
     refine ye [0,20] ?_
     exact hl7 _ (zi h).symm
    ·obtain ⟨v3, hv3, h⟩ := zn h
     obtain ⟨v4, hv4, h⟩ := zn h
     refine yx hn 2 ?_
     refine ys 2 ⟨lk call76 (ok_wherryref11_in _ _ _ _ hv1)⟩ ?_
     refine yd hg1_4 1 ?_
     refine ys 3 ⟨lh hv2⟩ ?_
     refine yd hg1_9 3 ?_
     refine ys 0 ⟨lb hv3⟩ ?_
     refine ys 2 ⟨lh hv4⟩ ?_
     refine ye [0,20] ?_
     exact hl7 _ (zi h).symm
theorem ok_wherryref11_Domain (s : ByteArray) (r : Bool) (h : Sh.wherryref11_Domain s = some r) : FnOK Tryz.prog 70 [.v (.string s)] (.v (.bool r)) := by
  unfold Sh.wherryref11_Domain at h
  refine yO 63 func70 fun g0 hn hio => ?_
  refine yyy hn 1 [0] ?_
  refine ht_seq ?_
  refine ht_seq ?_
  obtain ⟨v1, hv1, h⟩ := zn h
  refine yx hn 2 ?_
  refine ys 1 ⟨lk call76 (ok_wherryref11_in _ _ _ _ hv1)⟩ ?_
  refine yee [0,8] ?_
  refine ht_cond _ rfl (fun hb2 => ?_) (fun hb2 => ?_)
  ·have h := cond_t hb2 h
   refine yyy hn 1 [2] ?_
   refine ht_ret ?_
   refine pt_r_then ?_
   obtain rfl := zi h
   exact pt_ret hio rfl (.tmp _ _ .nil) rfl rfl
  ·have h := cond_f hb2 h
   refine ht_skip ?_
   refine pt_then ?_
   refine yyy hn 1 [0,3] ?_
   refine ht_seq ?_
   refine yyy hn 1 [0,3,4] ?_
   refine ht_loopS h (fun ((s88,s89) : Int × Int) => [(0,vs s),(3,vi s88),(4,vi s89)]) (fun (() : Unit) => []) ?_ ?_
   ·rintro ⟨⟩ h
    refine pt_then ?_
    refine yyy hn 1 [2] ?_
    refine ht_ret ?_
    obtain rfl := zi h
    exact pt_ret hio rfl (.tmp _ _ .nil) rfl rfl
   ·rintro u125 hl126 hr127 ⟨s88, s89⟩ rr130 h ho128
    refine ht_seq ?_
    refine yyy hn 4 [0,3,4,12] ?_
    refine ht_cond _ rfl (fun hb131 => ?_) (fun hb131 => ?_)
    ·have h := cond_t hb131 h
     refine ht_skip ?_
     refine pt_then (ht_seq ?_)
     refine ht_joinS h (fun (s147 : Int) => [(0,vs s),(3,vi s147),(4,vi s89)]) ?_ ?_
     ·rintro s147 h
      refine pt_then ?_
      obtain ⟨v50, hv50, h⟩ := zn h
      refine yx hn 1 ?_
      refine ys 0 ⟨lb hv50⟩ ?_
      refine yw [4] 1 ?_
      refine ye [0,3,4] ?_
      exact pt_next _ (zi h).symm rfl
     ·intro u148 h hl149 hr150
      refine ht_block ?_
      refine ht_seq ?_
      refine ht_seq ?_
      refine ht_joinS h (fun (s151 : Bool) => [(0,vs s),(3,vi s88),(4,vi s89),(24,vb s151)]) ?_ ?_
      ·rintro s151 h
       refine pt_then ?_
       refine ht_cond _ rfl (fun hb155 => ?_) (fun hb155 => ?_)
       ·have h := cond_t hb155 h
        refine ht_seq ?_
        refine ht_seq ?_
        refine ht_joinS h (fun (s156 : Bool) => [(0,vs s),(3,vi s88),(4,vi s89),(42,vb s156)]) ?_ ?_
        ·rintro s156 h
         refine pt_then ?_
         refine ht_cond _ rfl (fun hb160 => ?_) (fun hb160 => ?_)
         ·have h := cond_t hb160 h
          refine yyy hn 1 [2] ?_
          refine ht_ret ?_
          refine pt_r_then ?_
          refine pt_r_then ?_
          refine pt_r_in ?_
          refine pt_r_then ?_
          refine pt_r_then ?_
          refine pt_r_in ?_
          refine pt_r_then ?_
          have h := hr150 _ (zi h).symm
          have h := hr127 _ (ho128 _ (zi h).symm).symm
          obtain rfl := zi h
          exact pt_ret hio rfl (.tmp _ _ .nil) rfl rfl
         ·have h := cond_f hb160 h
          refine ht_skip ?_
          refine pt_then ?_
          refine ht_exit ?_
          refine pt_x_then ?_
          refine pt_x_in ?_
          refine pt_pick [0,1,2] (by kernel_rfl) (es' := [(_,_),(_,_),(_,_)]) rfl ?_
          exact hl149 _ (zi h).symm
        ·intro u157 h hl158 hr159
         obtain ⟨v10, hv10, h⟩ := zn h
         obtain ⟨v11, hv11, h⟩ := zn h
         refine cond_some h (fun hg8_5 h => ?_) (fun hg8_5 h => ?_)
         ·obtain ⟨v12, hv12, h⟩ := zn h
          obtain ⟨v13, hv13, h⟩ := zn h
          refine cond_some h (fun hg8_12 h => ?_) (fun hg8_12 h => ?_)
          ·obtain ⟨v14, hv14, h⟩ := zn h
           refine yx hn 2 ?_
           refine ys 0 ⟨lh hv10⟩ ?_
           refine ys 2 ⟨lk call78 (ok_wherryref11_letter _ _ hv11)⟩ ?_
           refine yd hg8_5 2 ?_
           refine ys 0 ⟨lh hv12⟩ ?_
           refine ys 3 ⟨lk call79 (ok_wherryref11_digit _ _ hv13)⟩ ?_
           refine yd hg8_12 2 ?_
           refine ys 2 ⟨lh hv14⟩ ?_
           refine ye [0,3,4,42] ?_
           exact hl158 _ (zi h).symm
          ·refine yx hn 2 ?_
           refine ys 0 ⟨lh hv10⟩ ?_
           refine ys 2 ⟨lk call78 (ok_wherryref11_letter _ _ hv11)⟩ ?_
           refine yd hg8_5 2 ?_
           refine ys 0 ⟨lh hv12⟩ ?_
           refine ys 3 ⟨lk call79 (ok_wherryref11_digit _ _ hv13)⟩ ?_
           refine yd hg8_12 5 ?_
           refine ye [0,3,4,42] ?_
           exact hl158 _ (zi h).symm
         ·refine yx hn 2 ?_
          refine ys 0 ⟨lh hv10⟩ ?_
          refine ys 2 ⟨lk call78 (ok_wherryref11_letter _ _ hv11)⟩ ?_
          refine yd hg8_5 12 ?_
          refine ye [0,3,4,42] ?_
          exact hl158 _ (zi h).symm
       ·have h := cond_f hb155 h
        refine ht_skip ?_
        refine pt_then (ht_seq ?_)
        refine ht_seq ?_
        refine ht_joinS h (fun (s161 : Bool) => [(0,vs s),(4,vi s89),(60,vb s161)]) ?_ ?_
        ·rintro s161 h
         refine pt_then ?_
         refine ht_cond _ rfl (fun hb165 => ?_) (fun hb165 => ?_)
         ·have h := cond_t hb165 h
          refine yyy hn 1 [2] ?_
          refine ht_ret ?_
          refine pt_r_then ?_
          refine pt_r_in ?_
          refine pt_r_then ?_
          refine pt_r_then ?_
          refine pt_r_in ?_
          refine pt_r_then ?_
          have h := hr150 _ (zi h).symm
          have h := hr127 _ (ho128 _ (zi h).symm).symm
          obtain rfl := zi h
          exact pt_ret hio rfl (.tmp _ _ .nil) rfl rfl
         ·have h := cond_f hb165 h
          refine ht_skip ?_
          refine pt_then ?_
          obtain ⟨v30, hv30, h⟩ := zn h
          refine yx hn 1 ?_
          refine ys 1 ⟨lb hv30⟩ ?_
          refine ye [0,4,3] ?_
          refine pt_inb ?_
          refine pt_pick [0,2,1] (by kernel_rfl) (es' := [(_,_),(_,_),(_,_)]) rfl ?_
          exact hl149 _ (zi h).symm
        ·intro u162 h hl163 hr164
         obtain ⟨v20, hv20, h⟩ := zn h
         obtain ⟨v21, hv21, h⟩ := zn h
         refine cond_some h (fun hg10_5 h => ?_) (fun hg10_5 h => ?_)
         ·refine yx hn 2 ?_
          refine ys 0 ⟨lb hv20⟩ ?_
          refine ys 2 ⟨lk call76 (ok_wherryref11_in _ _ _ _ hv21)⟩ ?_
          refine yd hg10_5 12 ?_
          refine ye [0,4,60] ?_
          exact hl163 _ (zi h).symm
         ·obtain ⟨v22, hv22, h⟩ := zn h
          refine cond_some h (fun hg10_11 h => ?_) (fun hg10_11 h => ?_)
          ·refine yx hn 2 ?_
           refine ys 0 ⟨lb hv20⟩ ?_
           refine ys 2 ⟨lk call76 (ok_wherryref11_in _ _ _ _ hv21)⟩ ?_
           refine yd hg10_5 2 ?_
           refine ys 3 ⟨lh hv22⟩ ?_
           refine yd hg10_11 6 ?_
           refine ye [0,4,60] ?_
           exact hl163 _ (zi h).symm
          ·obtain ⟨v23, hv23, h⟩ := zn h
           obtain ⟨v24, hv24, h⟩ := zn h
           refine yx hn 2 ?_
           refine ys 0 ⟨lb hv20⟩ ?_
           refine ys 2 ⟨lk call76 (ok_wherryref11_in _ _ _ _ hv21)⟩ ?_
           refine yd hg10_5 2 ?_
           refine ys 3 ⟨lh hv22⟩ ?_
           refine yd hg10_11 2 ?_
           refine ys 0 ⟨lb hv23⟩ ?_
           refine ys 2 ⟨lh hv24⟩ ?_
           refine ye [0,4,60] ?_
           exact hl163 _ (zi h).symm
      ·intro u152 h hl153 hr154
       refine cond_some h (fun hg7_4 h => ?_) (fun hg7_4 h => ?_)
       ·obtain ⟨v4, hv4, h⟩ := zn h
        refine yx hn 5 ?_
        refine yd hg7_4 2 ?_
        refine ys 2 ⟨lh hv4⟩ ?_
        refine ye [0,3,4,24] ?_
        exact hl153 _ (zi h).symm
       ·refine yx hn 5 ?_
        refine yd hg7_4 5 ?_
        refine ye [0,3,4,24] ?_
        exact hl153 _ (zi h).symm
    ·have h := cond_f hb131 h
     refine ht_exit ?_
     refine pt_x_then ?_
     refine pt_x_then ?_
     refine pt_x_in ?_
     refine pt_pick [] (by kernel_rfl) (es' := []) rfl ?_
     exact hl126 _ (ho128 _ (zi h).symm).symm
theorem ok_wherryref11_Path (p : T_Path) (r : Bool) (h : Sh.wherryref11_Path p = some r) : FnOK Tryz.prog 58 [.agg [.v (.bool p.Null), .v (.string p.Local), .v (.string p.Domain)]] (.v (.bool r)) := by
  unfold Sh.wherryref11_Path at h
  refine yO 21 func58 fun g0 hn hio => ?_
  refine yyy hn 2 [1] ?_
  refine ht_seq ?_
  refine yyy hn 2 [1,4] ?_
  refine ht_cond _ rfl (fun hb1 => ?_) (fun hb1 => ?_)
  ·have h := cond_t hb1 h
   refine ht_seq ?_
   refine ht_joinS h (fun (s2 : Bool) => [(2,vb s2)]) ?_ ?_
   ·rintro s2 h
    refine pt_then (ht_ret ?_)
    refine pt_r_then ?_
    obtain rfl := zi h
    exact pt_ret hio rfl (.tmp _ _ .nil) rfl rfl
   ·intro u3 h hl4 hr5
    refine cond_some h (fun hg2_3 h => ?_) (fun hg2_3 h => ?_)
    ·refine yx hn 4 ?_
     refine yd hg2_3 5 ?_
     refine ye [2] ?_
     exact hl4 _ (zi h).symm
    ·refine yx hn 4 ?_
     refine yd hg2_3 5 ?_
     refine ye [2] ?_
     exact hl4 _ (zi h).symm
  ·have h := cond_f hb1 h
   refine ht_skip ?_
   refine pt_then (ht_seq ?_)
   refine ht_joinS h (fun (s8 : Bool) => [(2,vb s8)]) ?_ ?_
   ·rintro s8 h
    refine pt_then (ht_ret ?_)
    obtain rfl := zi h
    exact pt_ret hio rfl (.tmp _ _ .nil) rfl rfl
   ·intro u9 h hl10 hr11
    obtain ⟨v6, hv6, h⟩ := zn h
    refine cond_some h (fun hg3_3 h => ?_) (fun hg3_3 h => ?_)
    ·obtain ⟨v7, hv7, h⟩ := zn h
     refine yx hn 2 ?_
     refine ys 1 ⟨lk call69 (ok_wherryref11_Local _ _ hv6)⟩ ?_
     refine yd hg3_3 2 ?_
     refine ys 2 ⟨lk call70 (ok_wherryref11_Domain _ _ hv7)⟩ ?_
     refine ye [2] ?_
     exact hl10 _ (zi h).symm
    ·refine yx hn 2 ?_
     refine ys 1 ⟨lk call69 (ok_wherryref11_Local _ _ hv6)⟩ ?_
     refine yd hg3_3 5 ?_
     refine ye [2] ?_
     exact hl10 _ (zi h).symm
theorem ok_wherryref11_Body (b : (List Int)) (r : Bool) (h : Sh.wherryref11_Body b = some r) : FnOK Tryz.prog 59 [.fl .shr 1 (map (int .u8) b)] (.v (.bool r)) := by
  unfold Sh.wherryref11_Body at h
  refine yO 61 func59 fun g0 hn hio => ?_
  refine yyy hn 1 [0] ?_
  refine ht_seq ?_
  refine yyy hn 1 [0,3] ?_
  refine ht_loopS h (fun (s31 : Int) => [(0,fb b),(3,vi s31)]) (fun (() : Unit) => [(0,fb b)]) ?_ ?_
  ·rintro ⟨⟩ h
   refine pt_then (ht_seq ?_)
   refine ht_joinS h (fun (s53 : Bool) => [(2,vb s53)]) ?_ ?_
   ·rintro s53 h
    refine pt_then (ht_ret ?_)
    obtain rfl := zi h
    exact pt_ret hio rfl (.tmp _ _ .nil) rfl rfl
   ·intro u54 h hl55 hr56
    refine cond_some h (fun hg6_3 h => ?_) (fun hg6_3 h => ?_)
    ·refine yx hn 4 ?_
     refine yd hg6_3 9 ?_
     refine ye [2] ?_
     exact hl55 _ (zi h).symm
    ·obtain ⟨v50, hv50, h⟩ := zn h
     obtain ⟨v51, hv51, h⟩ := zn h
     obtain ⟨v52, hv52, h⟩ := zn h
     refine yx hn 4 ?_
     refine yd hg6_3 3 ?_
     refine ys 0 ⟨lb hv50⟩ ?_
     refine ys 0 ⟨li hv51⟩ ?_
     refine ys 3 ⟨ll hv52⟩ ?_
     refine ye [2] ?_
     exact hl55 _ (zi h).symm
  ·rintro u38 hl39 hr40 s31 rr43 h ho41
   refine ht_seq ?_
   refine yyy hn 4 [0,3,7] ?_
   refine ht_cond _ rfl (fun hb44 => ?_) (fun hb44 => ?_)
   ·have h := cond_t hb44 h
    refine ht_skip ?_
    refine pt_then (ht_seq ?_)
    refine ht_block ?_
    refine ht_seq ?_
    refine ht_joinS h (fun (s45 : Bool) => [(0,fb b),(3,vi s31),(48,vb s45)]) ?_ ?_
    ·rintro s45 h
     refine pt_then ?_
     refine ht_cond _ rfl (fun hb49 => ?_) (fun hb49 => ?_)
     ·have h := cond_t hb49 h
      refine yyy hn 1 [2] ?_
      refine ht_ret ?_
      refine pt_r_in ?_
      refine pt_r_then ?_
      refine pt_r_then ?_
      refine pt_r_in ?_
      refine pt_r_then ?_
      have h := hr40 _ (ho41 _ (zi h).symm).symm
      obtain rfl := zi h
      exact pt_ret hio rfl (.tmp _ _ .nil) rfl rfl
     ·have h := cond_f hb49 h
      refine ht_skip ?_
      refine pt_inb ?_
      refine pt_then ?_
      obtain ⟨v23, hv23, h⟩ := zn h
      refine yx hn 1 ?_
      refine ys 0 ⟨lb hv23⟩ ?_
      refine yw [3] 1 ?_
      refine ye [0,3] ?_
      exact pt_next _ (zi h).symm rfl
    ·intro u46 h hl47 hr48
     obtain ⟨v2, hv2, h⟩ := zn h
     obtain ⟨v3, hv3, h⟩ := zn h
     refine cond_some h (fun hg4_5 h => ?_) (fun hg4_5 h => ?_)
     ·obtain ⟨v4, hv4, h⟩ := zn h
      refine cond_some h (fun hg4_11 h => ?_) (fun hg4_11 h => ?_)
      ·refine yx hn 2 ?_
       refine ys 0 ⟨li hv2⟩ ?_
       refine ys 2 ⟨ll hv3⟩ ?_
       refine yd hg4_5 1 ?_
       refine ys 4 ⟨lb hv4⟩ ?_
       refine yd hg4_11 27 ?_
       refine ye [0,3,48] ?_
       exact hl47 _ (zi h).symm
      ·obtain ⟨v5, hv5, h⟩ := zn h
       obtain ⟨v6, hv6, h⟩ := zn h
       obtain ⟨v7, hv7, h⟩ := zn h
       refine cond_some h (fun hg4_20 h => ?_) (fun hg4_20 h => ?_)
       ·refine yx hn 2 ?_
        refine ys 0 ⟨li hv2⟩ ?_
        refine ys 2 ⟨ll hv3⟩ ?_
        refine yd hg4_5 1 ?_
        refine ys 4 ⟨lb hv4⟩ ?_
        refine yd hg4_11 2 ?_
        refine ys 0 ⟨lb hv5⟩ ?_
        refine ys 0 ⟨li hv6⟩ ?_
        refine ys 4 ⟨ll hv7⟩ ?_
        refine yd hg4_20 18 ?_
        refine ye [0,3,48] ?_
        exact hl47 _ (zi h).symm
       ·obtain ⟨v8, hv8, h⟩ := zn h
        obtain ⟨v9, hv9, h⟩ := zn h
        refine cond_some h (fun hg4_26 h => ?_) (fun hg4_26 h => ?_)
        ·refine cond_some h (fun hg4_29 h => ?_) (fun hg4_29 h => ?_)
         ·refine yx hn 2 ?_
          refine ys 0 ⟨li hv2⟩ ?_
          refine ys 2 ⟨ll hv3⟩ ?_
          refine yd hg4_5 1 ?_
          refine ys 4 ⟨lb hv4⟩ ?_
          refine yd hg4_11 2 ?_
          refine ys 0 ⟨lb hv5⟩ ?_
          refine ys 0 ⟨li hv6⟩ ?_
          refine ys 4 ⟨ll hv7⟩ ?_
          refine yd hg4_20 2 ?_
          refine ys 0 ⟨li hv8⟩ ?_
          refine ys 2 ⟨ll hv9⟩ ?_
          refine yd hg4_26 3 ?_
          refine yd hg4_29 9 ?_
          refine ye [0,3,48] ?_
          exact hl47 _ (zi h).symm
         ·obtain ⟨v10, hv10, h⟩ := zn h
          obtain ⟨v11, hv11, h⟩ := zn h
          obtain ⟨v12, hv12, h⟩ := zn h
          refine yx hn 2 ?_
          refine ys 0 ⟨li hv2⟩ ?_
          refine ys 2 ⟨ll hv3⟩ ?_
          refine yd hg4_5 1 ?_
          refine ys 4 ⟨lb hv4⟩ ?_
          refine yd hg4_11 2 ?_
          refine ys 0 ⟨lb hv5⟩ ?_
          refine ys 0 ⟨li hv6⟩ ?_
          refine ys 4 ⟨ll hv7⟩ ?_
          refine yd hg4_20 2 ?_
          refine ys 0 ⟨li hv8⟩ ?_
          refine ys 2 ⟨ll hv9⟩ ?_
          refine yd hg4_26 3 ?_
          refine yd hg4_29 2 ?_
          refine ys 0 ⟨lb hv10⟩ ?_
          refine ys 0 ⟨li hv11⟩ ?_
          refine ys 4 ⟨ll hv12⟩ ?_
          refine ye [0,3,48] ?_
          exact hl47 _ (zi h).symm
        ·refine yx hn 2 ?_
         refine ys 0 ⟨li hv2⟩ ?_
         refine ys 2 ⟨ll hv3⟩ ?_
         refine yd hg4_5 1 ?_
         refine ys 4 ⟨lb hv4⟩ ?_
         refine yd hg4_11 2 ?_
         refine ys 0 ⟨lb hv5⟩ ?_
         refine ys 0 ⟨li hv6⟩ ?_
         refine ys 4 ⟨ll hv7⟩ ?_
         refine yd hg4_20 2 ?_
         refine ys 0 ⟨li hv8⟩ ?_
         refine ys 2 ⟨ll hv9⟩ ?_
         refine yd hg4_26 12 ?_
         refine ye [0,3,48] ?_
         exact hl47 _ (zi h).symm
     ·obtain ⟨v13, hv13, h⟩ := zn h
      obtain ⟨v14, hv14, h⟩ := zn h
      refine cond_some h (fun hg4_26 h => ?_) (fun hg4_26 h => ?_)
      ·refine cond_some h (fun hg4_29 h => ?_) (fun hg4_29 h => ?_)
       ·refine yx hn 2 ?_
        refine ys 0 ⟨li hv2⟩ ?_
        refine ys 2 ⟨ll hv3⟩ ?_
        refine yd hg4_5 17 ?_
        refine ys 0 ⟨li hv13⟩ ?_
        refine ys 2 ⟨ll hv14⟩ ?_
        refine yd hg4_26 3 ?_
        refine yd hg4_29 9 ?_
        refine ye [0,3,48] ?_
        exact hl47 _ (zi h).symm
       ·obtain ⟨v15, hv15, h⟩ := zn h
        obtain ⟨v16, hv16, h⟩ := zn h
        obtain ⟨v17, hv17, h⟩ := zn h
        refine yx hn 2 ?_
        refine ys 0 ⟨li hv2⟩ ?_
        refine ys 2 ⟨ll hv3⟩ ?_
        refine yd hg4_5 17 ?_
        refine ys 0 ⟨li hv13⟩ ?_
        refine ys 2 ⟨ll hv14⟩ ?_
        refine yd hg4_26 3 ?_
        refine yd hg4_29 2 ?_
        refine ys 0 ⟨lb hv15⟩ ?_
        refine ys 0 ⟨li hv16⟩ ?_
        refine ys 4 ⟨ll hv17⟩ ?_
        refine ye [0,3,48] ?_
        exact hl47 _ (zi h).symm
      ·refine yx hn 2 ?_
       refine ys 0 ⟨li hv2⟩ ?_
       refine ys 2 ⟨ll hv3⟩ ?_
       refine yd hg4_5 17 ?_
       refine ys 0 ⟨li hv13⟩ ?_
       refine ys 2 ⟨ll hv14⟩ ?_
       refine yd hg4_26 12 ?_
       refine ye [0,3,48] ?_
       exact hl47 _ (zi h).symm
   ·have h := cond_f hb44 h
    refine ht_exit ?_
    refine pt_x_then ?_
    refine pt_x_then ?_
    refine pt_x_in ?_
    refine pt_pick [0] (by kernel_rfl) (es' := [(_,_)]) rfl ?_
    exact hl39 _ (ho41 _ (zi h).symm).symm
end Go.Proofs.YtjdmcbkkacnmdaaGreatDoor
