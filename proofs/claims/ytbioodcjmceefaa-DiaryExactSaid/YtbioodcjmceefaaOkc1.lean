/-
  The model's runs are what is told in Lean.
-/
import Derived.Test.YtbioodcjmceefaaProg
import Derived.KernelRfl
import Derived.Test.YtbioodcjmceefaaBG
import Derived.Test.YtbioodcjmceefaaC1
import Derived.Test.YtbioodcjmceefaaBB
import Derived.Test.YtbioodcjmceefaaSh
set_option linter.unusedVariables false
set_option linter.unusedSimpArgs false
set_option maxHeartbeats 1000000
namespace Go.Proofs.Ytbioodcjmceefaa
open Go.Abs Go.Abs.Sh Try
instance iUD22 : UD Try.prog 22 (.slice 33) := ⟨Try.underlying22⟩
instance iLiT_wherrylaw18_Act : LenI T_wherrylaw18_Act.ienc 4 := ⟨T_wherrylaw18_Act.ilen⟩
theorem fs64 : ∀ fs, Try.prog.underlying 64 = some (.struct fs) → fs.toList.map (fun f => (Try.prog.info? f.type).map (·.size)) = ([1, 1, 1, 1, 1, 1, 1, 1, 1] : List Nat).map some := by
  intro fs h
  rw [Try.underlying64] at h
  cases h
  kernel_rfl
theorem zr64 : (Try.prog.info? 64).bind (·.zero) = some (.agg #[.int .i64 0, .slice none 0 0, .int .i64 0, .int .i64 0, .int .i64 0, .int .i64 0, .bool false, .int .i64 0, .int .i64 0]) := by kernel_rfl
theorem fs67 : ∀ fs, Try.prog.underlying 67 = some (.struct fs) → fs.toList.map (fun f => (Try.prog.info? f.type).map (·.size)) = ([1, 1, 1, 1, 1, 1, 1, 1] : List Nat).map some := by
  intro fs h
  rw [Try.underlying67] at h
  cases h
  kernel_rfl
theorem zr67 : (Try.prog.info? 67).bind (·.zero) = some (.agg #[.int .i64 0, .slice none 0 0, .int .i64 0, .bool false, .int .i64 0, .int .i64 0, .int .i64 0, .int .i64 0]) := by kernel_rfl
theorem sz33 : (Try.prog.info? 33).map (·.size) = some 4 := by kernel_rfl
theorem zr33 : (Try.prog.info? 33).bind (·.zero) = some (.agg #[.int .i64 0, .slice none 0 0, .int .i64 0, .int .i64 0]) := by kernel_rfl
instance iSZ33 : SZ Try.prog 33 4 := ⟨by kernel_rfl⟩
instance iAG33 : AA Try.prog 33 4 := ⟨by kernel_rfl⟩
theorem sz31 : (Try.prog.info? 31).map (·.size) = some 1 := by kernel_rfl
instance iUD31 : UD Try.prog 31 (.slice 46) := ⟨Try.underlying31⟩
instance iLiT_Rec : LenI T_Rec.ienc 15 := ⟨T_Rec.ilen⟩
theorem sz46 : (Try.prog.info? 46).map (·.size) = some 15 := by kernel_rfl
theorem sz41 : (Try.prog.info? 41).map (·.size) = some 1 := by kernel_rfl
instance iSZ46 : SZ Try.prog 46 15 := ⟨by kernel_rfl⟩
instance iFO46_7 : FO Try.prog 46 7 14 := ⟨by kernel_rfl⟩
instance iUD41 : UD Try.prog 41 (.slice 5) := ⟨Try.underlying41⟩
theorem sz44 : (Try.prog.info? 44).map (·.size) = some 1 := by kernel_rfl
instance iFO46_3 : FO Try.prog 46 3 10 := ⟨by kernel_rfl⟩
instance iUD44 : UD Try.prog 44 (.slice 3) := ⟨Try.underlying44⟩
theorem sz43 : (Try.prog.info? 43).map (·.size) = some 8 := by kernel_rfl
theorem zr43 : (Try.prog.info? 43).bind (·.zero) = some (.agg #[.bool false, .string ByteArray.empty, .string ByteArray.empty, .slice none 0 0, .slice none 0 0, .bool false, .string ByteArray.empty, .int .i64 0]) := by kernel_rfl
instance iUD69 : UD Try.prog 69 (.slice 43) := ⟨Try.underlying69⟩
instance iLiT_Mail : LenI T_Mail.ienc 8 := ⟨T_Mail.ilen⟩
theorem sz39 : (Try.prog.info? 39).map (·.size) = some 3 := by kernel_rfl
instance iSZ43 : SZ Try.prog 43 8 := ⟨by kernel_rfl⟩
instance iFO43_2 : FO Try.prog 43 2 4 := ⟨by kernel_rfl⟩
instance iFO43_4 : FO Try.prog 43 4 6 := ⟨by kernel_rfl⟩
instance iUD9 : UD Try.prog 9 .string := ⟨Try.underlying9⟩
instance iFO43_0 : FO Try.prog 43 0 0 := ⟨by kernel_rfl⟩
instance iFO39_1 : FO Try.prog 39 1 1 := ⟨by kernel_rfl⟩
instance iFO39_2 : FO Try.prog 39 2 2 := ⟨by kernel_rfl⟩
theorem sz40 : (Try.prog.info? 40).map (·.size) = some 1 := by kernel_rfl
instance iFO43_1 : FO Try.prog 43 1 3 := ⟨by kernel_rfl⟩
instance iUD40 : UD Try.prog 40 (.slice 39) := ⟨Try.underlying40⟩
instance iLT_Path : LenE T_Path.enc 3 := ⟨T_Path.len⟩
instance iSZ39 : SZ Try.prog 39 3 := ⟨by kernel_rfl⟩
instance iAG9 : AS Try.prog 9 := ⟨by kernel_rfl⟩
instance iFO46_1 : FO Try.prog 46 1 1 := ⟨by kernel_rfl⟩
instance iFO33_1 : FO Try.prog 33 1 1 := ⟨by kernel_rfl⟩
instance iAG31 : AS Try.prog 31 := ⟨by kernel_rfl⟩
def oe46 (x : T_Rec) : List AV := [.v (.int .i64 x.Kind), .v (.bool x.Mail.From.Null), .v (.string x.Mail.From.Local), .v (.string x.Mail.From.Domain), .fl (.own 39) 3 (List.flatten (List.map T_Path.enc x.Mail.To)), .fl (.own 5) 1 (List.map (Value.int .u8) x.Mail.Body), .v (.bool x.Mail.Quiet), .v (.string x.Mail.Helo), .v (.int .i64 x.Mail.At), .v (.int .i64 x.Id), .fl (.own 3) 1 (List.map (Value.int .i64) x.Ids), .v (.int .i64 x.Origin), .v (.int .i64 x.Number), .v (.int .i64 x.Offset), .fl (.own 5) 1 (List.map (Value.int .u8) x.Data)]
theorem oe46_l (x : T_Rec) : (oe46 x).length = 15 := rfl
theorem oe46_c (x : T_Rec) : closeds (oe46 x) = true := rfl
theorem oe46_s (x : T_Rec) : noShrs (oe46 x) = true := rfl
theorem oe46_i (x : T_Rec) : AIs true ((oe46 x).map shrA) (T_Rec.ienc x) := .cons (.v _) (.cons (.v _) (.cons (.v _) (.cons (.v _) (.cons (.shr _ _ rfl rfl) (.cons (.shr _ _ rfl rfl) (.cons (.v _) (.cons (.v _) (.cons (.v _) (.cons (.v _) (.cons (.shr _ _ rfl rfl) (.cons (.v _) (.cons (.v _) (.cons (.v _) (.cons (.shr _ _ rfl rfl) (.nil)))))))))))))))
theorem zr46 : (Try.prog.info? 46).bind (·.zero) = some (.agg #[.int .i64 0, .bool false, .string ByteArray.empty, .string ByteArray.empty, .slice none 0 0, .slice none 0 0, .bool false, .string ByteArray.empty, .int .i64 0, .int .i64 0, .slice none 0 0, .int .i64 0, .int .i64 0, .int .i64 0, .slice none 0 0]) := by kernel_rfl
theorem el40 : ElemT Try.prog 40 39 3 40 := ⟨⟨Try.t39, .agg #[.bool false, .string ByteArray.empty, .string ByteArray.empty], Try.underlying40, by kernel_rfl, by kernel_rfl, by kernel_rfl, by kernel_rfl, by decide, by kernel_rfl⟩⟩
theorem el41 : ElemT Try.prog 41 5 1 1 := ⟨⟨Try.t5, .int .u8 0, Try.underlying41, by kernel_rfl, by kernel_rfl, by kernel_rfl, by kernel_rfl, by decide, by kernel_rfl⟩⟩
instance iAG40 : AS Try.prog 40 := ⟨by kernel_rfl⟩
instance iAG41 : AS Try.prog 41 := ⟨by kernel_rfl⟩
theorem el44 : ElemT Try.prog 44 3 1 8 := ⟨⟨Try.t3, .int .i64 0, Try.underlying44, by kernel_rfl, by kernel_rfl, by kernel_rfl, by kernel_rfl, by decide, by kernel_rfl⟩⟩
instance iAG43 : AA Try.prog 43 8 := ⟨by kernel_rfl⟩
instance iAG44 : AS Try.prog 44 := ⟨by kernel_rfl⟩
theorem el31 : ElemT Try.prog 31 46 15 208 := ⟨⟨Try.t46, .agg #[.int .i64 0, .bool false, .string ByteArray.empty, .string ByteArray.empty, .slice none 0 0, .slice none 0 0, .bool false, .string ByteArray.empty, .int .i64 0, .int .i64 0, .slice none 0 0, .int .i64 0, .int .i64 0, .int .i64 0, .slice none 0 0], Try.underlying31, by kernel_rfl, by kernel_rfl, by kernel_rfl, by kernel_rfl, by decide, by kernel_rfl⟩⟩
theorem sz3 : (Try.prog.info? 3).map (·.size) = some 1 := by kernel_rfl
instance iFO33_0 : FO Try.prog 33 0 0 := ⟨by kernel_rfl⟩
instance iAG3 : AS Try.prog 3 := ⟨by kernel_rfl⟩
instance iUD3 : UD Try.prog 3 (.int .i64) := ⟨Try.underlying3⟩
instance iUD36 : UD Try.prog 36 (.int .u64) := ⟨Try.underlying36⟩
instance iFO64_6 : FO Try.prog 64 6 6 := ⟨by kernel_rfl⟩
instance iAG4 : AS Try.prog 4 := ⟨by kernel_rfl⟩
instance iFO64_2 : FO Try.prog 64 2 2 := ⟨by kernel_rfl⟩
instance iAG46 : AA Try.prog 46 15 := ⟨by kernel_rfl⟩
instance iFO64_0 : FO Try.prog 64 0 0 := ⟨by kernel_rfl⟩
instance iFO64_1 : FO Try.prog 64 1 1 := ⟨by kernel_rfl⟩
instance iFO64_7 : FO Try.prog 64 7 7 := ⟨by kernel_rfl⟩
instance iFO64_3 : FO Try.prog 64 3 3 := ⟨by kernel_rfl⟩
instance iFO64_4 : FO Try.prog 64 4 4 := ⟨by kernel_rfl⟩
instance iFO64_5 : FO Try.prog 64 5 5 := ⟨by kernel_rfl⟩
instance iFO64_8 : FO Try.prog 64 8 8 := ⟨by kernel_rfl⟩
instance iFO67_3 : FO Try.prog 67 3 3 := ⟨by kernel_rfl⟩
instance iFO67_1 : FO Try.prog 67 1 1 := ⟨by kernel_rfl⟩
instance iFO67_0 : FO Try.prog 67 0 0 := ⟨by kernel_rfl⟩
instance iFO67_5 : FO Try.prog 67 5 5 := ⟨by kernel_rfl⟩
instance iFO67_2 : FO Try.prog 67 2 2 := ⟨by kernel_rfl⟩
instance iFO67_7 : FO Try.prog 67 7 7 := ⟨by kernel_rfl⟩
instance iFO67_4 : FO Try.prog 67 4 4 := ⟨by kernel_rfl⟩
instance iFO67_6 : FO Try.prog 67 6 6 := ⟨by kernel_rfl⟩
instance iFO33_3 : FO Try.prog 33 3 3 := ⟨by kernel_rfl⟩
instance iFO33_2 : FO Try.prog 33 2 2 := ⟨by kernel_rfl⟩
instance iFO39_0 : FO Try.prog 39 0 0 := ⟨by kernel_rfl⟩
theorem sz5 : (Try.prog.info? 5).map (·.size) = some 1 := by kernel_rfl
instance iSZ5 : SZ Try.prog 5 1 := ⟨by kernel_rfl⟩
instance iAG5 : AS Try.prog 5 := ⟨by kernel_rfl⟩
instance iAG39 : AA Try.prog 39 3 := ⟨by kernel_rfl⟩
instance iFO43_3 : FO Try.prog 43 3 5 := ⟨by kernel_rfl⟩
instance iFO43_5 : FO Try.prog 43 5 7 := ⟨by kernel_rfl⟩
instance iSZ3 : SZ Try.prog 3 1 := ⟨by kernel_rfl⟩
instance iFO46_0 : FO Try.prog 46 0 0 := ⟨by kernel_rfl⟩
instance iFO46_2 : FO Try.prog 46 2 9 := ⟨by kernel_rfl⟩
instance iFO46_4 : FO Try.prog 46 4 11 := ⟨by kernel_rfl⟩
instance iFO46_5 : FO Try.prog 46 5 12 := ⟨by kernel_rfl⟩
instance iFO46_6 : FO Try.prog 46 6 13 := ⟨by kernel_rfl⟩
theorem fs46 : ∀ fs, Try.prog.underlying 46 = some (.struct fs) → fs.toList.map (fun f => (Try.prog.info? f.type).map (·.size)) = ([1, 8, 1, 1, 1, 1, 1, 1] : List Nat).map some := by
  intro fs h
  rw [Try.underlying46] at h
  cases h
  kernel_rfl
theorem ok_diary_New (limit : Int) (r : ((Option T_diary_Diary) × Int)) (h : Sh.diary_New limit = some r) : FnOK Try.prog 10 [.v (.int .i64 limit)] (.tup [.obox (Option.isSome r.1) 64 [.v (.int .i64 (((Option.getD r.1 (default : T_diary_Diary))).limit)), .fr (.own 46) false 15 (List.flatten (List.map T_Rec.ienc (((Option.getD r.1 (default : T_diary_Diary))).recs))), .v (.int .i64 (((Option.getD r.1 (default : T_diary_Diary))).used)), .v (.int .i64 (((Option.getD r.1 (default : T_diary_Diary))).safe)), .v (.int .i64 (((Option.getD r.1 (default : T_diary_Diary))).kept)), .v (.int .i64 (((Option.getD r.1 (default : T_diary_Diary))).life)), .v (.bool (((Option.getD r.1 (default : T_diary_Diary))).off)), .v (.int .i64 (((Option.getD r.1 (default : T_diary_Diary))).trip)), .v (.int .i64 (((Option.getD r.1 (default : T_diary_Diary))).tripKeep))], .v (.int .i64 r.2)]) := by
  unfold Sh.diary_New at h
  refine yO 13 func10 fun g0 hn hio => ?_
  refine yyy hn 2 [0] ?_
  refine ht_seq ?_
  refine ht_seq ?_
  refine ht_joinS h (fun (s1 : Bool) => [(0, .v (.int .i64 limit)), (9, .v (.bool s1))]) ?_ ?_
  ·rintro s1 h
   refine pt_then ?_
   refine ht_cond _ rfl (fun hb5 => ?_) (fun hb5 => ?_)
   ·have h := cond_t hb5 h
    refine yyy hn 2 [2,3] ?_
    refine ht_ret ?_
    refine pt_sub (fs := [(2, .obox false 64 [.v (.int .i64 ((default : T_diary_Diary).limit)), .fr (.own 46) false 15 (List.flatten (List.map T_Rec.ienc ((default : T_diary_Diary).recs))), .v (.int .i64 ((default : T_diary_Diary).used)), .v (.int .i64 ((default : T_diary_Diary).safe)), .v (.int .i64 ((default : T_diary_Diary).kept)), .v (.int .i64 ((default : T_diary_Diary).life)), .v (.bool ((default : T_diary_Diary).off)), .v (.int .i64 ((default : T_diary_Diary).trip)), .v (.int .i64 ((default : T_diary_Diary).tripKeep))]), (3, .v (.int .i64 1))]) (.sub _ (sub_ob_nil 64 [.v (.int .i64 ((default : T_diary_Diary).limit)), .fr (.own 46) false 15 (List.flatten (List.map T_Rec.ienc ((default : T_diary_Diary).recs))), .v (.int .i64 ((default : T_diary_Diary).used)), .v (.int .i64 ((default : T_diary_Diary).safe)), .v (.int .i64 ((default : T_diary_Diary).kept)), .v (.int .i64 ((default : T_diary_Diary).life)), .v (.bool ((default : T_diary_Diary).off)), .v (.int .i64 ((default : T_diary_Diary).trip)), .v (.int .i64 ((default : T_diary_Diary).tripKeep))]) rfl (.same _ .nil)) ?_
    refine pt_r_then ?_
    obtain rfl := Option.some.inj h
    exact pt_ret hio rfl (.tmp _ _ (.tmp _ _ .nil)) rfl rfl
   ·have h := cond_f hb5 h
    refine ht_skip ?_
    refine pt_then ?_
    refine yxx hn 1 ?_
    refine yS (.agg [.v (.int .i64 limit), .v (.slice none 0 0), .v (.int .i64 0), .v (.int .i64 0), .v (.int .i64 0), .v (.int .i64 0), .v (.bool false), .v (.int .i64 0), .v (.int .i64 0)]) 1 ⟨op_build _ _ _ _ [1, 1, 1, 1, 1, 1, 1, 1, 1] _ _ underlying64 zr64 (fs64 _ underlying64) (.copy _ Src.nil) rfl rfl rfl⟩ ?_
    refine ya 1 ?_
    refine yee [2,3] ?_
    refine ht_ret ?_
    refine pt_sub (fs := [(2, .obox true 64 [.v (.int .i64 limit), .fr (.own 46) false 15 (List.flatten (List.map T_Rec.ienc [])), .v (.int .i64 0), .v (.int .i64 0), .v (.int .i64 0), .v (.int .i64 0), .v (.bool false), .v (.int .i64 0), .v (.int .i64 0)]), (3, .v (.int .i64 0))]) (.sub _ (sub_ob_box 64 (subs_cons (sub_refl _) (subs_cons (sub_nil_fr 46 false 15) (subs_cons (sub_refl _) (subs_cons (sub_refl _) (subs_cons (sub_refl _) (subs_cons (sub_refl _) (subs_cons (sub_refl _) (subs_cons (sub_refl _) (subs_cons (sub_refl _) (subs_nil))))))))))) rfl (.same _ .nil)) ?_
    obtain rfl := Option.some.inj h
    exact pt_ret hio rfl (.tmp _ _ (.tmp _ _ .nil)) rfl rfl
  ·intro u2 h hl3 hr4
   refine cond_some h (fun hg1_2 h => ?_) (fun hg1_2 h => ?_)
   ·refine yx hn 3 ?_
    refine yd hg1_2 3 ?_
    refine ye [0,9] ?_
    exact hl3 _ (Option.some.inj h).symm
   ·refine yx hn 3 ?_
    refine yd hg1_2 3 ?_
    refine ye [0,9] ?_
    exact hl3 _ (Option.some.inj h).symm
theorem ok_wherryref18_in (n : Int) (lo : Int) (hi : Int) (r : Bool) (h : Sh.wherryref18_in n lo hi = some r) : FnOK Try.prog 38 [.v (.int .i64 n), .v (.int .i64 lo), .v (.int .i64 hi)] (.v (.bool r)) := by
  unfold Sh.wherryref18_in at h
  refine yO 15 func38 fun g0 hn hio => ?_
  refine yyy hn 1 [0,1,2] ?_
  refine ht_seq ?_
  refine ht_joinS h (fun (s1 : Bool) => [(6, .v (.bool s1))]) ?_ ?_
  ·rintro s1 h
   refine pt_then (ht_ret ?_)
   obtain rfl := Option.some.inj h
   exact pt_ret hio rfl (.tmp _ _ .nil) rfl rfl
  ·intro u2 h hl3 hr4
   refine cond_some h (fun hg1_3 h => ?_) (fun hg1_3 h => ?_)
   ·refine yx hn 4 ?_
    refine yd hg1_3 5 ?_
    refine ye [6] ?_
    exact hl3 _ (Option.some.inj h).symm
   ·refine yx hn 4 ?_
    refine yd hg1_3 5 ?_
    refine ye [6] ?_
    exact hl3 _ (Option.some.inj h).symm
theorem ok_wherryref18_New (limit : Int) (r : ((Option T_wherryref18_Diary) × Int)) (h : Sh.wherryref18_New limit = some r) : FnOK Try.prog 11 [.v (.int .i64 limit)] (.tup [.obox (Option.isSome r.1) 67 [.v (.int .i64 (((Option.getD r.1 (default : T_wherryref18_Diary))).Limit)), .fr (.own 46) false 15 (List.flatten (List.map T_Rec.ienc (((Option.getD r.1 (default : T_wherryref18_Diary))).Recs))), .v (.int .i64 (((Option.getD r.1 (default : T_wherryref18_Diary))).Sure)), .v (.bool (((Option.getD r.1 (default : T_wherryref18_Diary))).IsOff)), .v (.int .i64 (((Option.getD r.1 (default : T_wherryref18_Diary))).Lives)), .v (.int .i64 (((Option.getD r.1 (default : T_wherryref18_Diary))).Left)), .v (.int .i64 (((Option.getD r.1 (default : T_wherryref18_Diary))).Keep)), .v (.int .i64 (((Option.getD r.1 (default : T_wherryref18_Diary))).Kept))], .v (.int .i64 r.2)]) := by
  unfold Sh.wherryref18_New at h
  refine yO 10 func11 fun g0 hn hio => ?_
  refine yyy hn 2 [0] ?_
  refine ht_seq ?_
  refine ht_seq ?_
  obtain ⟨v1, hv1, h⟩ := bind_some h
  refine yx hn 1 ?_
  refine ys 1 ⟨lk call38 (ok_wherryref18_in _ _ _ _ hv1)⟩ ?_
  refine yee [0,6] ?_
  refine ht_cond _ rfl (fun hb2 => ?_) (fun hb2 => ?_)
  ·have h := cond_t hb2 h
   refine yyy hn 2 [2,3] ?_
   refine ht_ret ?_
   refine pt_sub (fs := [(2, .obox false 67 [.v (.int .i64 ((default : T_wherryref18_Diary).Limit)), .fr (.own 46) false 15 (List.flatten (List.map T_Rec.ienc ((default : T_wherryref18_Diary).Recs))), .v (.int .i64 ((default : T_wherryref18_Diary).Sure)), .v (.bool ((default : T_wherryref18_Diary).IsOff)), .v (.int .i64 ((default : T_wherryref18_Diary).Lives)), .v (.int .i64 ((default : T_wherryref18_Diary).Left)), .v (.int .i64 ((default : T_wherryref18_Diary).Keep)), .v (.int .i64 ((default : T_wherryref18_Diary).Kept))]), (3, .v (.int .i64 1))]) (.sub _ (sub_ob_nil 67 [.v (.int .i64 ((default : T_wherryref18_Diary).Limit)), .fr (.own 46) false 15 (List.flatten (List.map T_Rec.ienc ((default : T_wherryref18_Diary).Recs))), .v (.int .i64 ((default : T_wherryref18_Diary).Sure)), .v (.bool ((default : T_wherryref18_Diary).IsOff)), .v (.int .i64 ((default : T_wherryref18_Diary).Lives)), .v (.int .i64 ((default : T_wherryref18_Diary).Left)), .v (.int .i64 ((default : T_wherryref18_Diary).Keep)), .v (.int .i64 ((default : T_wherryref18_Diary).Kept))]) rfl (.same _ .nil)) ?_
   refine pt_r_then ?_
   obtain rfl := Option.some.inj h
   exact pt_ret hio rfl (.tmp _ _ (.tmp _ _ .nil)) rfl rfl
  ·have h := cond_f hb2 h
   refine ht_skip ?_
   refine pt_then ?_
   refine yxx hn 1 ?_
   refine yS (.agg [.v (.int .i64 limit), .v (.slice none 0 0), .v (.int .i64 0), .v (.bool false), .v (.int .i64 0), .v (.int .i64 0), .v (.int .i64 0), .v (.int .i64 0)]) 1 ⟨op_build _ _ _ _ [1, 1, 1, 1, 1, 1, 1, 1] _ _ underlying67 zr67 (fs67 _ underlying67) (.copy _ Src.nil) rfl rfl rfl⟩ ?_
   refine ya 1 ?_
   refine yee [2,3] ?_
   refine ht_ret ?_
   refine pt_sub (fs := [(2, .obox true 67 [.v (.int .i64 limit), .fr (.own 46) false 15 (List.flatten (List.map T_Rec.ienc [])), .v (.int .i64 0), .v (.bool false), .v (.int .i64 0), .v (.int .i64 0), .v (.int .i64 0), .v (.int .i64 0)]), (3, .v (.int .i64 0))]) (.sub _ (sub_ob_box 67 (subs_cons (sub_refl _) (subs_cons (sub_nil_fr 46 false 15) (subs_cons (sub_refl _) (subs_cons (sub_refl _) (subs_cons (sub_refl _) (subs_cons (sub_refl _) (subs_cons (sub_refl _) (subs_cons (sub_refl _) (subs_nil)))))))))) rfl (.same _ .nil)) ?_
   obtain rfl := Option.some.inj h
   exact pt_ret hio rfl (.tmp _ _ (.tmp _ _ .nil)) rfl rfl
theorem ok_wherrylaw17_Heavy (l : (List T_Mail)) (r : Bool) (h : Sh.wherrylaw17_Heavy l = some r) : FnOK Try.prog 39 [.fr .shr true 8 (List.flatten (List.map T_Mail.ienc l))] (.v (.bool r)) := by
  unfold Sh.wherrylaw17_Heavy at h
  refine yO 88 func39 fun g0 hn hio => ?_
  refine yyy hn 1 [0] ?_
  refine ht_seq ?_
  refine yyy hn 3 [0,8] ?_
  refine ht_cond _ rfl (fun hb1 => ?_) (fun hb1 => ?_)
  ·have h := cond_t hb1 h
   refine yyy hn 1 [2] ?_
   refine ht_ret ?_
   refine pt_r_then ?_
   obtain rfl := Option.some.inj h
   exact pt_ret hio rfl (.tmp _ _ .nil) rfl rfl
  ·have h := cond_f hb1 h
   refine ht_skip ?_
   refine pt_then ?_
   refine yyy hn 1 [0,3] ?_
   refine ht_seq ?_
   refine yyy hn 1 [0,3,4] ?_
   refine ht_loopS h (fun ((s66, s67) : Int × Int) => [(0, .fr .shr true 8 (List.flatten (List.map T_Mail.ienc l))), (3, .v (.int .i64 s66)), (4, .v (.int .i64 s67))]) (fun (s85 : Int) => [(3, .v (.int .i64 s85))]) ?_ ?_
   ·rintro s85 h
    refine pt_then ?_
    refine yyy hn 3 [2] ?_
    refine ht_ret ?_
    obtain rfl := Option.some.inj h
    exact pt_ret hio rfl (.tmp _ _ .nil) rfl rfl
   ·rintro u86 hl87 hr88 ⟨s66, s67⟩ rr91 h ho89
    refine ht_seq ?_
    refine yyy hn 4 [0,3,4,12] ?_
    refine ht_cond _ rfl (fun hb92 => ?_) (fun hb92 => ?_)
    ·have h := cond_t hb92 h
     refine ht_skip ?_
     refine pt_then (ht_seq ?_)
     refine ht_block ?_
     refine ht_seq ?_
     obtain ⟨v3, hv3, h⟩ := bind_some h
     obtain ⟨v4, hv4, h⟩ := bind_some h
     obtain ⟨v5, hv5, h⟩ := bind_some h
     obtain ⟨v6, hv6, h⟩ := bind_some h
     obtain ⟨v7, hv7, h⟩ := bind_some h
     obtain ⟨v8, hv8, h⟩ := bind_some h
     obtain ⟨v9, hv9, h⟩ := bind_some h
     obtain ⟨v10, hv10, h⟩ := bind_some h
     obtain ⟨v11, hv11, h⟩ := bind_some h
     obtain ⟨v12, hv12, h⟩ := bind_some h
     obtain ⟨v13, hv13, h⟩ := bind_some h
     obtain ⟨v14, hv14, h⟩ := bind_some h
     refine wb [[3],[0],[4]] ?_
     refine wN [16,17] ?_
     refine wo [[18,16]] ⟨lI hv3⟩ ?_
     refine wN [19,16] ?_
     refine wS (.fl .shr 1 (List.map (Value.int .u8) v4.Body)) [[20]] ⟨op_load_fr _ _ _ _ _ _ _ underlying41 rfl rfl rfl (gflat_cell T_Mail.ilen hv4 rfl) (.fl _ _ rfl)⟩ ?_
     refine wN [15,21] ?_
     refine wo [[0],[4]] ⟨lb hv5⟩ ?_
     refine wN [23,24] ?_
     refine wo [[25,23]] ⟨lI hv6⟩ ?_
     refine wN [26,23] ?_
     refine wS (.v (.string v7.Helo)) [[27]] ⟨op_load_fr _ _ _ _ _ _ _ underlying9 rfl rfl rfl (gflat_cell T_Mail.ilen hv7 rfl) (.v _)⟩ ?_
     refine wN [22,28] ?_
     refine wo [[0],[4]] ⟨lb hv8⟩ ?_
     refine wN [30,31] ?_
     refine wo [[32,30],[33,30]] ⟨lI hv9⟩ ?_
     refine wN [34,30] ?_
     refine wS (.v (.string v10.From.Local)) [[35]] ⟨op_load_fr _ _ _ _ _ _ _ underlying9 rfl rfl rfl (gflat_cell (j := 1) T_Mail.ilen hv10 rfl) (.v _)⟩ ?_
     refine wN [29,36] ?_
     refine wo [[0],[4]] ⟨lb hv11⟩ ?_
     refine wN [38,39] ?_
     refine wo [[40,38],[41,38]] ⟨lI hv12⟩ ?_
     refine wN [42,38] ?_
     refine wS (.v (.string v13.From.Domain)) [[43]] ⟨op_load_fr _ _ _ _ _ _ _ underlying9 rfl rfl rfl (gflat_cell (j := 2) T_Mail.ilen hv13 rfl) (.v _)⟩ ?_
     refine wN [37,44] ?_
     refine wo [] ⟨lb hv14⟩ ?_
     refine wK [3] [45] ?_
     refine wt [(3, .v (.int .i64 v14))] [] ⟨LOp.drop [_] (op_assign _ _ _ _ rfl rfl)⟩ ?_
     refine wee hn [0,4,3] ?_
     refine ht_seq ?_
     refine ht_seq ?_
     obtain ⟨v15, hv15, h⟩ := bind_some h
     obtain ⟨v16, hv16, h⟩ := bind_some h
     refine yx hn 2 ?_
     refine ys 1 ⟨lI hv15⟩ ?_
     refine yS (.fl .shr 3 (List.flatten (List.map T_Path.enc v16.To))) 2 ⟨op_load_fr _ _ _ _ _ _ _ underlying40 rfl rfl rfl (gflat_cell T_Mail.ilen hv16 rfl) (.fl _ _ rfl)⟩ ?_
     refine yee [0,4,3,52] ?_
     refine ht_cond _ rfl (fun hb93 => ?_) (fun hb93 => ?_)
     ·have h := cond_t hb93 h
      refine yyy hn 1 [2] ?_
      refine ht_ret ?_
      refine pt_r_then ?_
      refine pt_r_in ?_
      refine pt_r_then ?_
      refine pt_r_then ?_
      refine pt_r_in ?_
      refine pt_r_then ?_
      have h := hr88 _ (ho89 _ (Option.some.inj h).symm).symm
      obtain rfl := Option.some.inj h
      exact pt_ret hio rfl (.tmp _ _ .nil) rfl rfl
     ·have h := cond_f hb93 h
      refine ht_skip ?_
      refine pt_then ?_
      refine yyy hn 1 [0,4,3,5] ?_
      refine ht_loopS h (fun ((s98, s99) : Int × Int) => [(0, .fr .shr true 8 (List.flatten (List.map T_Mail.ienc l))), (4, .v (.int .i64 s67)), (3, .v (.int .i64 s98)), (5, .v (.int .i64 s99))]) (fun (s101 : Int) => [(0, .fr .shr true 8 (List.flatten (List.map T_Mail.ienc l))), (4, .v (.int .i64 s67)), (3, .v (.int .i64 s101))]) ?_ ?_
      ·rintro s101 h
       refine pt_inb ?_
       refine pt_then ?_
       obtain ⟨v46, hv46, h⟩ := bind_some h
       refine yx hn 1 ?_
       refine ys 0 ⟨lb hv46⟩ ?_
       refine yw [4] 1 ?_
       refine ye [0,3,4] ?_
       exact pt_next _ (Option.some.inj h).symm rfl
      ·rintro u102 hl103 hr104 ⟨s98, s99⟩ rr107 h ho105
       refine ht_seq ?_
       refine ht_seq ?_
       obtain ⟨v18, hv18, h⟩ := bind_some h
       obtain ⟨v19, hv19, h⟩ := bind_some h
       refine yx hn 3 ?_
       refine ys 1 ⟨lI hv18⟩ ?_
       refine yS (.fl .shr 3 (List.flatten (List.map T_Path.enc v19.To))) 2 ⟨op_load_fr _ _ _ _ _ _ _ underlying40 rfl rfl rfl (gflat_cell T_Mail.ilen hv19 rfl) (.fl _ _ rfl)⟩ ?_
       refine yee [0,4,3,5,60] ?_
       refine ht_cond _ rfl (fun hb108 => ?_) (fun hb108 => ?_)
       ·have h := cond_t hb108 h
        refine ht_skip ?_
        refine pt_then (ht_seq ?_)
        refine ht_block ?_
        obtain ⟨v21, hv21, h⟩ := bind_some h
        obtain ⟨v22, hv22, h⟩ := bind_some h
        obtain ⟨v23, hv23, h⟩ := bind_some h
        obtain ⟨v24, hv24, h⟩ := bind_some h
        obtain ⟨v25, hv25, h⟩ := bind_some h
        obtain ⟨v26, hv26, h⟩ := bind_some h
        obtain ⟨v27, hv27, h⟩ := bind_some h
        obtain ⟨v28, hv28, h⟩ := bind_some h
        obtain ⟨v29, hv29, h⟩ := bind_some h
        obtain ⟨v30, hv30, h⟩ := bind_some h
        refine wb [[3],[0],[4]] ?_
        refine wN [64,65] ?_
        refine wo [[66,64]] ⟨lI hv21⟩ ?_
        refine wN [67,64] ?_
        refine wS (.fl .shr 3 (List.flatten (List.map T_Path.enc v22.To))) [[5]] ⟨op_load_fr _ _ _ _ _ _ _ underlying40 rfl rfl rfl (gflat_cell T_Mail.ilen hv22 rfl) (.fl _ _ rfl)⟩ ?_
        refine wN [68,69] ?_
        refine wo [[70,68]] ⟨lj hv23⟩ ?_
        refine wN [71,68] ?_
        refine wo [[72]] ⟨lL hv24⟩ ?_
        refine wN [63,73] ?_
        refine wo [[0],[4]] ⟨lb hv25⟩ ?_
        refine wN [75,76] ?_
        refine wo [[77,75]] ⟨lI hv26⟩ ?_
        refine wN [78,75] ?_
        refine wS (.fl .shr 3 (List.flatten (List.map T_Path.enc v27.To))) [[5]] ⟨op_load_fr _ _ _ _ _ _ _ underlying40 rfl rfl rfl (gflat_cell T_Mail.ilen hv27 rfl) (.fl _ _ rfl)⟩ ?_
        refine wN [79,80] ?_
        refine wo [[81,79]] ⟨lj hv28⟩ ?_
        refine wN [82,79] ?_
        refine wo [[83]] ⟨lL hv29⟩ ?_
        refine wN [74,84] ?_
        refine wo [] ⟨lb hv30⟩ ?_
        refine wK [3] [85] ?_
        refine wt [(3, .v (.int .i64 v30))] [] ⟨LOp.drop [_] (op_assign _ _ _ _ rfl rfl)⟩ ?_
        refine we hn [0,4,5,3] ?_
        refine pt_inb ?_
        refine pt_then ?_
        obtain ⟨v31, hv31, h⟩ := bind_some h
        refine yx hn 1 ?_
        refine ys 0 ⟨lb hv31⟩ ?_
        refine yw [5] 1 ?_
        refine ye [0,4,3,5] ?_
        exact pt_next _ (Option.some.inj h).symm rfl
       ·have h := cond_f hb108 h
        refine ht_exit ?_
        refine pt_x_then ?_
        refine pt_x_then ?_
        refine pt_x_in ?_
        refine pt_pick [0, 1, 2] (by kernel_rfl) (es' := [(_,_),(_,_),(_,_)]) rfl ?_
        exact hl103 _ (ho105 _ (Option.some.inj h).symm).symm
    ·have h := cond_f hb92 h
     refine ht_exit ?_
     refine pt_x_then ?_
     refine pt_x_then ?_
     refine pt_x_in ?_
     refine pt_pick [1] (by kernel_rfl) (es' := [(_,_)]) rfl ?_
     exact hl87 _ (ho89 _ (Option.some.inj h).symm).symm
theorem ok_wherrylaw18_Heavy (l : (List T_Rec)) (r : Bool) (h : Sh.wherrylaw18_Heavy l = some r) : FnOK Try.prog 13 [.fr .shr true 15 (List.flatten (List.map T_Rec.ienc l))] (.v (.bool r)) := by
  unfold Sh.wherrylaw18_Heavy at h
  refine yO 38 func13 fun g0 hn hio => ?_
  refine yyy hn 1 [0] ?_
  refine ht_seq ?_
  refine yyy hn 3 [0,6] ?_
  refine ht_cond _ rfl (fun hb1 => ?_) (fun hb1 => ?_)
  ·have h := cond_t hb1 h
   refine yyy hn 1 [2] ?_
   refine ht_ret ?_
   refine pt_r_then ?_
   obtain rfl := Option.some.inj h
   exact pt_ret hio rfl (.tmp _ _ .nil) rfl rfl
  ·have h := cond_f hb1 h
   refine ht_skip ?_
   refine pt_then (ht_seq ?_)
   refine yyy hn 1 [0,3] ?_
   refine ht_loopS h (fun (s23 : Int) => [(0, .fr .shr true 15 (List.flatten (List.map T_Rec.ienc l))), (3, .v (.int .i64 s23))]) (fun (() : Unit) => []) ?_ ?_
   ·rintro ⟨⟩ h
    refine pt_then ?_
    refine yyy hn 1 [2] ?_
    refine ht_ret ?_
    obtain rfl := Option.some.inj h
    exact pt_ret hio rfl (.tmp _ _ .nil) rfl rfl
   ·rintro u30 hl31 hr32 s23 rr35 h ho33
    refine ht_seq ?_
    refine yyy hn 4 [0,3,10] ?_
    refine ht_cond _ rfl (fun hb36 => ?_) (fun hb36 => ?_)
    ·have h := cond_t hb36 h
     refine ht_skip ?_
     refine pt_then (ht_seq ?_)
     refine ht_block ?_
     refine ht_seq ?_
     refine ht_joinS h (fun (s37 : Bool) => [(0, .fr .shr true 15 (List.flatten (List.map T_Rec.ienc l))), (3, .v (.int .i64 s23)), (37, .v (.bool s37))]) ?_ ?_
     ·rintro s37 h
      refine pt_then ?_
      refine ht_cond _ rfl (fun hb41 => ?_) (fun hb41 => ?_)
      ·have h := cond_t hb41 h
       refine yyy hn 1 [2] ?_
       refine ht_ret ?_
       refine pt_r_in ?_
       refine pt_r_then ?_
       refine pt_r_then ?_
       refine pt_r_in ?_
       refine pt_r_then ?_
       have h := hr32 _ (ho33 _ (Option.some.inj h).symm).symm
       obtain rfl := Option.some.inj h
       exact pt_ret hio rfl (.tmp _ _ .nil) rfl rfl
      ·have h := cond_f hb41 h
       refine ht_skip ?_
       refine pt_inb ?_
       refine pt_then ?_
       obtain ⟨v15, hv15, h⟩ := bind_some h
       refine yx hn 1 ?_
       refine ys 0 ⟨lb hv15⟩ ?_
       refine yw [3] 1 ?_
       refine ye [0,3] ?_
       exact pt_next _ (Option.some.inj h).symm rfl
     ·intro u38 h hl39 hr40
      obtain ⟨v3, hv3, h⟩ := bind_some h
      obtain ⟨v4, hv4, h⟩ := bind_some h
      refine cond_some h (fun hg6_7 h => ?_) (fun hg6_7 h => ?_)
      ·refine yx hn 2 ?_
       refine ys 1 ⟨lI hv3⟩ ?_
       refine yS (.fl .shr 1 (List.map (Value.int .u8) v4.Data)) 3 ⟨op_load_fr _ _ _ _ _ _ _ underlying41 rfl rfl rfl (gflat_cell T_Rec.ilen hv4 rfl) (.fl _ _ rfl)⟩ ?_
       refine yd hg6_7 17 ?_
       refine ye [0,3,37] ?_
       exact hl39 _ (Option.some.inj h).symm
      ·obtain ⟨v5, hv5, h⟩ := bind_some h
       obtain ⟨v6, hv6, h⟩ := bind_some h
       refine cond_some h (fun hg6_16 h => ?_) (fun hg6_16 h => ?_)
       ·refine yx hn 2 ?_
        refine ys 1 ⟨lI hv3⟩ ?_
        refine yS (.fl .shr 1 (List.map (Value.int .u8) v4.Data)) 3 ⟨op_load_fr _ _ _ _ _ _ _ underlying41 rfl rfl rfl (gflat_cell T_Rec.ilen hv4 rfl) (.fl _ _ rfl)⟩ ?_
        refine yd hg6_7 2 ?_
        refine ys 1 ⟨lI hv5⟩ ?_
        refine yS (.fl .shr 1 (List.map (Value.int .i64) v6.Ids)) 4 ⟨op_load_fr _ _ _ _ _ _ _ underlying44 rfl rfl rfl (gflat_cell T_Rec.ilen hv6 rfl) (.fl _ _ rfl)⟩ ?_
        refine yd hg6_16 8 ?_
        refine ye [0,3,37] ?_
        exact hl39 _ (Option.some.inj h).symm
       ·obtain ⟨v7, hv7, h⟩ := bind_some h
        obtain ⟨v8, hv8, h⟩ := bind_some h
        obtain ⟨v9, hv9, h⟩ := bind_some h
        refine yx hn 2 ?_
        refine ys 1 ⟨lI hv3⟩ ?_
        refine yS (.fl .shr 1 (List.map (Value.int .u8) v4.Data)) 3 ⟨op_load_fr _ _ _ _ _ _ _ underlying41 rfl rfl rfl (gflat_cell T_Rec.ilen hv4 rfl) (.fl _ _ rfl)⟩ ?_
        refine yd hg6_7 2 ?_
        refine ys 1 ⟨lI hv5⟩ ?_
        refine yS (.fl .shr 1 (List.map (Value.int .i64) v6.Ids)) 4 ⟨op_load_fr _ _ _ _ _ _ _ underlying44 rfl rfl rfl (gflat_cell T_Rec.ilen hv6 rfl) (.fl _ _ rfl)⟩ ?_
        refine yd hg6_16 2 ?_
        refine ys 1 ⟨lI hv7⟩ ?_
        refine yS (.agg [.v (.bool v8.Mail.From.Null), .v (.string v8.Mail.From.Local), .v (.string v8.Mail.From.Domain), .fl .shr 3 (List.flatten (List.map T_Path.enc v8.Mail.To)), .fl .shr 1 (List.map (Value.int .u8) v8.Mail.Body), .v (.bool v8.Mail.Quiet), .v (.string v8.Mail.Helo), .v (.int .i64 v8.Mail.At)]) 0 ⟨op_loadA_fr _ _ _ _ _ _ _ _ underlying43 rfl sz43 rfl rfl (gflat_seg T_Rec.ilen hv8 (zl rfl) rfl) (.cons (.v _) (.cons (.v _) (.cons (.v _) (.cons (.fl _ _ rfl) (.cons (.fl _ _ rfl) (.cons (.v _) (.cons (.v _) (.cons (.v _) (.nil))))))))) rfl (by decide)⟩ ?_
        refine yS (.fr (.own 43) true 8 (List.flatten (List.map T_Mail.ienc [(T_Mail.mk (T_Path.mk v8.Mail.From.Null v8.Mail.From.Local v8.Mail.From.Domain) v8.Mail.To v8.Mail.Body v8.Mail.Quiet v8.Mail.Helo v8.Mail.At)]))) 0 ⟨op_build1_fr _ _ _ 8 (.agg #[.bool false, .string ByteArray.empty, .string ByteArray.empty, .slice none 0 0, .slice none 0 0, .bool false, .string ByteArray.empty, .int .i64 0]) true _ _ underlying69 sz43 zr43 rfl rfl (.cons (.v _) (.cons (.v _) (.cons (.v _) (.cons (.shr _ _ rfl rfl) (.cons (.shr _ _ rfl rfl) (.cons (.v _) (.cons (.v _) (.cons (.v _) (.nil))))))))) rfl (by decide) (by decide)⟩ ?_
        refine ys 1 ⟨lk call39 (ok_wherrylaw17_Heavy _ _ hv9)⟩ ?_
        refine ye [0,3,37] ?_
        exact hl39 _ (Option.some.inj h).symm
    ·have h := cond_f hb36 h
     refine ht_exit ?_
     refine pt_x_then ?_
     refine pt_x_then ?_
     refine pt_x_in ?_
     refine pt_pick [] (by kernel_rfl) (es' := []) rfl ?_
     exact hl31 _ (ho33 _ (Option.some.inj h).symm).symm
theorem ok_wherrykeep_TwinPaths (l : (List T_Path)) (r : (List T_Path)) (h : Sh.wherrykeep_TwinPaths l = some r) : FnOK Try.prog 62 [.fl .shr 3 (List.flatten (List.map T_Path.enc l))] (.fl (.own 39) 3 (List.flatten (List.map T_Path.enc r))) := by
  unfold Sh.wherrykeep_TwinPaths at h
  refine yO 7 func62 fun g0 hn hio => ?_
  refine yyy hn 1 [0] ?_
  refine yyy hn 1 [0,3] ?_
  refine ht_seq ?_
  obtain ⟨v1, hv1, h⟩ := bind_some h
  refine yx hn 2 ?_
  refine yS (.fl (.own 39) 3 (List.flatten (List.map T_Path.enc v1))) 0 ⟨op_app_nil _ _ _ _ el40 rfl rfl (flat_len T_Path.len _) hv1 (congrArg (fun l => List.flatten (List.map _ l)) (app_nil_eq hv1))⟩ ?_
  refine ya 0 ?_
  refine yee [2] ?_
  refine ht_ret ?_
  obtain rfl := Option.some.inj h
  exact pt_ret hio rfl (.tmp _ _ .nil) rfl rfl
theorem ok_wherrykeep_Twin (l : (List Int)) (r : (List Int)) (h : Sh.wherrykeep_Twin l = some r) : FnOK Try.prog 55 [.fl .shr 1 (List.map (Value.int .u8) l)] (.fl (.own 5) 1 (List.map (Value.int .u8) r)) := by
  unfold Sh.wherrykeep_Twin at h
  refine yO 7 func55 fun g0 hn hio => ?_
  refine yyy hn 1 [0] ?_
  refine yyy hn 1 [0,3] ?_
  refine ht_seq ?_
  obtain ⟨v1, hv1, h⟩ := bind_some h
  refine yx hn 2 ?_
  refine yS (.fl (.own 5) 1 (List.map (Value.int .u8) v1)) 0 ⟨op_app_nil _ _ _ _ el41 rfl rfl (map_len _) hv1 (congrArg (List.map _) (app_nil_eq hv1))⟩ ?_
  refine ya 0 ?_
  refine yee [2] ?_
  refine ht_ret ?_
  obtain rfl := Option.some.inj h
  exact pt_ret hio rfl (.tmp _ _ .nil) rfl rfl
theorem ok_wherrykeep_TwinMail (m : T_Mail) (r : T_Mail) (h : Sh.wherrykeep_TwinMail m = some r) : FnOK Try.prog 53 [.agg [.v (.bool m.From.Null), .v (.string m.From.Local), .v (.string m.From.Domain), .fl .shr 3 (List.flatten (List.map T_Path.enc m.To)), .fl .shr 1 (List.map (Value.int .u8) m.Body), .v (.bool m.Quiet), .v (.string m.Helo), .v (.int .i64 m.At)]] (.agg [.v (.bool r.From.Null), .v (.string r.From.Local), .v (.string r.From.Domain), .fl (.own 39) 3 (List.flatten (List.map T_Path.enc r.To)), .fl (.own 5) 1 (List.map (Value.int .u8) r.Body), .v (.bool r.Quiet), .v (.string r.Helo), .v (.int .i64 r.At)]) := by
  unfold Sh.wherrykeep_TwinMail at h
  refine yO 12 func53 fun g0 hn hio => ?_
  refine yxx hn 1 ?_
  refine yS (.box 43 [.v (.bool false), .v (.string (⟨#[]⟩ : ByteArray)), .v (.string (⟨#[]⟩ : ByteArray)), .v (.slice none 0 0), .v (.slice none 0 0), .v (.bool false), .v (.string (⟨#[]⟩ : ByteArray)), .v (.int .i64 0)]) 0 ⟨oA (op_alloc _ _ zr43)⟩ ?_
  refine yee [1,2] ?_
  refine ht_seq ?_
  obtain ⟨v1, hv1, h⟩ := bind_some h
  obtain ⟨v2, hv2, h⟩ := bind_some h
  refine wb [[1],[3,1]] ?_
  refine wN [4] ?_
  refine wo [[1],[6,1]] ⟨lk call62 (ok_wherrykeep_TwinPaths _ _ hv1)⟩ ?_
  refine wN [7] ?_
  refine wo [[1]] ⟨lk call55 (ok_wherrykeep_Twin _ _ hv2)⟩ ?_
  refine wK [5,1] [9] ?_
  refine wt [(1, .box 43 [.v (.bool m.From.Null), .v (.string m.From.Local), .v (.string m.From.Domain), .fl (.own 39) 3 (List.flatten (List.map T_Path.enc v1)), .fl .shr 1 (List.map (Value.int .u8) m.Body), .v (.bool m.Quiet), .v (.string m.Helo), .v (.int .i64 m.At)])] [[1]] ⟨op_store_take _ _ _ _ _ _ _ _ sz40 rfl rfl rfl (zl rfl) rfl rfl⟩ ?_
  refine wK [8,1] [10] ?_
  refine wt [(1, .box 43 [.v (.bool m.From.Null), .v (.string m.From.Local), .v (.string m.From.Domain), .fl (.own 39) 3 (List.flatten (List.map T_Path.enc v1)), .fl (.own 5) 1 (List.map (Value.int .u8) v2), .v (.bool m.Quiet), .v (.string m.Helo), .v (.int .i64 m.At)])] [] ⟨op_store_take _ _ _ _ _ _ _ _ sz41 rfl rfl rfl (zl rfl) rfl rfl⟩ ?_
  refine wee hn [1,2] ?_
  refine yxx hn 0 ?_
  refine yk [1] [] ?_
  refine yt (11, .agg [.v (.bool m.From.Null), .v (.string m.From.Local), .v (.string m.From.Domain), .fl (.own 39) 3 (List.flatten (List.map T_Path.enc v1)), .fl (.own 5) 1 (List.map (Value.int .u8) v2), .v (.bool m.Quiet), .v (.string m.Helo), .v (.int .i64 m.At)]) 0 ⟨op_loadA_take _ _ _ _ underlying43 rfl sz43 rfl rfl⟩ ?_
  refine yk [11,2] [] ?_
  refine yt (2, .box 43 [.v (.bool m.From.Null), .v (.string m.From.Local), .v (.string m.From.Domain), .fl (.own 39) 3 (List.flatten (List.map T_Path.enc v1)), .fl (.own 5) 1 (List.map (Value.int .u8) v2), .v (.bool m.Quiet), .v (.string m.Helo), .v (.int .i64 m.At)]) 0 ⟨op_store_take _ _ _ _ _ _ _ _ sz43 rfl rfl rfl (zl rfl) rfl rfl⟩ ?_
  refine yee [2] ?_
  refine ht_ret ?_
  obtain rfl := Option.some.inj h
  exact pt_ret hio rfl (.cellA _ _ _ _ underlying43 rfl sz43 .nil) rfl rfl
theorem ok_wherrykeep_TwinInts (l : (List Int)) (r : (List Int)) (h : Sh.wherrykeep_TwinInts l = some r) : FnOK Try.prog 54 [.fl .shr 1 (List.map (Value.int .i64) l)] (.fl (.own 3) 1 (List.map (Value.int .i64) r)) := by
  unfold Sh.wherrykeep_TwinInts at h
  refine yO 7 func54 fun g0 hn hio => ?_
  refine yyy hn 1 [0] ?_
  refine yyy hn 1 [0,3] ?_
  refine ht_seq ?_
  obtain ⟨v1, hv1, h⟩ := bind_some h
  refine yx hn 2 ?_
  refine yS (.fl (.own 3) 1 (List.map (Value.int .i64) v1)) 0 ⟨op_app_nil _ _ _ _ el44 rfl rfl (map_len _) hv1 (congrArg (List.map _) (app_nil_eq hv1))⟩ ?_
  refine ya 0 ?_
  refine yee [2] ?_
  refine ht_ret ?_
  obtain rfl := Option.some.inj h
  exact pt_ret hio rfl (.tmp _ _ .nil) rfl rfl
theorem ok_wherrykeep_TwinRec (p_r : T_Rec) (r : T_Rec) (h : Sh.wherrykeep_TwinRec p_r = some r) : FnOK Try.prog 40 [.agg [.v (.int .i64 p_r.Kind), .v (.bool p_r.Mail.From.Null), .v (.string p_r.Mail.From.Local), .v (.string p_r.Mail.From.Domain), .fl .shr 3 (List.flatten (List.map T_Path.enc p_r.Mail.To)), .fl .shr 1 (List.map (Value.int .u8) p_r.Mail.Body), .v (.bool p_r.Mail.Quiet), .v (.string p_r.Mail.Helo), .v (.int .i64 p_r.Mail.At), .v (.int .i64 p_r.Id), .fl .shr 1 (List.map (Value.int .i64) p_r.Ids), .v (.int .i64 p_r.Origin), .v (.int .i64 p_r.Number), .v (.int .i64 p_r.Offset), .fl .shr 1 (List.map (Value.int .u8) p_r.Data)]] (.agg [.v (.int .i64 r.Kind), .v (.bool r.Mail.From.Null), .v (.string r.Mail.From.Local), .v (.string r.Mail.From.Domain), .fl (.own 39) 3 (List.flatten (List.map T_Path.enc r.Mail.To)), .fl (.own 5) 1 (List.map (Value.int .u8) r.Mail.Body), .v (.bool r.Mail.Quiet), .v (.string r.Mail.Helo), .v (.int .i64 r.Mail.At), .v (.int .i64 r.Id), .fl (.own 3) 1 (List.map (Value.int .i64) r.Ids), .v (.int .i64 r.Origin), .v (.int .i64 r.Number), .v (.int .i64 r.Offset), .fl (.own 5) 1 (List.map (Value.int .u8) r.Data)]) := by
  unfold Sh.wherrykeep_TwinRec at h
  refine yO 16 func40 fun g0 hn hio => ?_
  refine yxx hn 1 ?_
  refine yS (.box 46 [.v (.int .i64 0), .v (.bool false), .v (.string (⟨#[]⟩ : ByteArray)), .v (.string (⟨#[]⟩ : ByteArray)), .v (.slice none 0 0), .v (.slice none 0 0), .v (.bool false), .v (.string (⟨#[]⟩ : ByteArray)), .v (.int .i64 0), .v (.int .i64 0), .v (.slice none 0 0), .v (.int .i64 0), .v (.int .i64 0), .v (.int .i64 0), .v (.slice none 0 0)]) 0 ⟨oA (op_alloc _ _ zr46)⟩ ?_
  refine yee [1,2] ?_
  refine ht_seq ?_
  obtain ⟨v1, hv1, h⟩ := bind_some h
  obtain ⟨v2, hv2, h⟩ := bind_some h
  obtain ⟨v3, hv3, h⟩ := bind_some h
  refine wb [[1],[3,1]] ?_
  refine wN [4] ?_
  refine wo [[1],[6,1]] ⟨lk call53 (ok_wherrykeep_TwinMail _ _ hv1)⟩ ?_
  refine wN [7] ?_
  refine wo [[1],[9,1]] ⟨lk call54 (ok_wherrykeep_TwinInts _ _ hv2)⟩ ?_
  refine wN [10] ?_
  refine wo [[1]] ⟨lk call55 (ok_wherrykeep_Twin _ _ hv3)⟩ ?_
  refine wK [5,1] [12] ?_
  refine wt [(1, .box 46 [.v (.int .i64 p_r.Kind), .v (.bool v1.From.Null), .v (.string v1.From.Local), .v (.string v1.From.Domain), .fl (.own 39) 3 (List.flatten (List.map T_Path.enc v1.To)), .fl (.own 5) 1 (List.map (Value.int .u8) v1.Body), .v (.bool v1.Quiet), .v (.string v1.Helo), .v (.int .i64 v1.At), .v (.int .i64 p_r.Id), .fl .shr 1 (List.map (Value.int .i64) p_r.Ids), .v (.int .i64 p_r.Origin), .v (.int .i64 p_r.Number), .v (.int .i64 p_r.Offset), .fl .shr 1 (List.map (Value.int .u8) p_r.Data)])] [[1]] ⟨op_store_take _ _ _ _ _ _ _ _ sz43 rfl rfl rfl (zl rfl) rfl rfl⟩ ?_
  refine wK [8,1] [13] ?_
  refine wt [(1, .box 46 [.v (.int .i64 p_r.Kind), .v (.bool v1.From.Null), .v (.string v1.From.Local), .v (.string v1.From.Domain), .fl (.own 39) 3 (List.flatten (List.map T_Path.enc v1.To)), .fl (.own 5) 1 (List.map (Value.int .u8) v1.Body), .v (.bool v1.Quiet), .v (.string v1.Helo), .v (.int .i64 v1.At), .v (.int .i64 p_r.Id), .fl (.own 3) 1 (List.map (Value.int .i64) v2), .v (.int .i64 p_r.Origin), .v (.int .i64 p_r.Number), .v (.int .i64 p_r.Offset), .fl .shr 1 (List.map (Value.int .u8) p_r.Data)])] [[1]] ⟨op_store_take _ _ _ _ _ _ _ _ sz44 rfl rfl rfl (zl rfl) rfl rfl⟩ ?_
  refine wK [11,1] [14] ?_
  refine wt [(1, .box 46 [.v (.int .i64 p_r.Kind), .v (.bool v1.From.Null), .v (.string v1.From.Local), .v (.string v1.From.Domain), .fl (.own 39) 3 (List.flatten (List.map T_Path.enc v1.To)), .fl (.own 5) 1 (List.map (Value.int .u8) v1.Body), .v (.bool v1.Quiet), .v (.string v1.Helo), .v (.int .i64 v1.At), .v (.int .i64 p_r.Id), .fl (.own 3) 1 (List.map (Value.int .i64) v2), .v (.int .i64 p_r.Origin), .v (.int .i64 p_r.Number), .v (.int .i64 p_r.Offset), .fl (.own 5) 1 (List.map (Value.int .u8) v3)])] [] ⟨op_store_take _ _ _ _ _ _ _ _ sz41 rfl rfl rfl (zl rfl) rfl rfl⟩ ?_
  refine wee hn [1,2] ?_
  refine yxx hn 0 ?_
  refine yk [1] [] ?_
  refine yt (15, .agg [.v (.int .i64 p_r.Kind), .v (.bool v1.From.Null), .v (.string v1.From.Local), .v (.string v1.From.Domain), .fl (.own 39) 3 (List.flatten (List.map T_Path.enc v1.To)), .fl (.own 5) 1 (List.map (Value.int .u8) v1.Body), .v (.bool v1.Quiet), .v (.string v1.Helo), .v (.int .i64 v1.At), .v (.int .i64 p_r.Id), .fl (.own 3) 1 (List.map (Value.int .i64) v2), .v (.int .i64 p_r.Origin), .v (.int .i64 p_r.Number), .v (.int .i64 p_r.Offset), .fl (.own 5) 1 (List.map (Value.int .u8) v3)]) 0 ⟨op_loadA_take _ _ _ _ underlying46 rfl sz46 rfl rfl⟩ ?_
  refine yk [15,2] [] ?_
  refine yt (2, .box 46 [.v (.int .i64 p_r.Kind), .v (.bool v1.From.Null), .v (.string v1.From.Local), .v (.string v1.From.Domain), .fl (.own 39) 3 (List.flatten (List.map T_Path.enc v1.To)), .fl (.own 5) 1 (List.map (Value.int .u8) v1.Body), .v (.bool v1.Quiet), .v (.string v1.Helo), .v (.int .i64 v1.At), .v (.int .i64 p_r.Id), .fl (.own 3) 1 (List.map (Value.int .i64) v2), .v (.int .i64 p_r.Origin), .v (.int .i64 p_r.Number), .v (.int .i64 p_r.Offset), .fl (.own 5) 1 (List.map (Value.int .u8) v3)]) 0 ⟨op_store_take _ _ _ _ _ _ _ _ sz46 rfl rfl rfl (zl rfl) rfl rfl⟩ ?_
  refine yee [2] ?_
  refine ht_ret ?_
  obtain rfl := Option.some.inj h
  exact pt_ret hio rfl (.cellA _ _ _ _ underlying46 rfl sz46 .nil) rfl rfl
theorem ok_wherrykeep_TwinRecs_oo (l : (List T_Rec)) (r : (List T_Rec)) (h : Sh.wherrykeep_TwinRecs_oo l = some r) : FnOK Try.prog 14 [.fr .shr true 15 (List.flatten (List.map T_Rec.ienc l))] (.hid (ownJ 46 15 (List.flatten (List.map oe46 r)))) := by
  unfold Sh.wherrykeep_TwinRecs_oo at h
  refine yO 20 func14 fun g0 hn hio => ?_
  refine yyy hn 1 [0] ?_
  refine yyy hn 1 [0,3] ?_
  refine ht_seq ?_
  refine yyy hn 1 [0,3,4] ?_
  refine ht_sub (fs := [(0, .fr .shr true 15 (List.flatten (List.map T_Rec.ienc l))), (3, .hid (ownJ 46 15 (List.flatten (List.map oe46 [])))), (4, .v (.int .i64 0))]) (.same _ (.sub _ (sub_nil_oe 46 15 oe46) rfl (.same _ .nil))) ?_
  refine ht_loopS h (fun ((s10, s11) : (List T_Rec) × Int) => [(0, .fr .shr true 15 (List.flatten (List.map T_Rec.ienc l))), (3, .hid (ownJ 46 15 (List.flatten (List.map oe46 s10)))), (4, .v (.int .i64 s11))]) (fun (s13 : (List T_Rec)) => [(3, .hid (ownJ 46 15 (List.flatten (List.map oe46 s13))))]) ?_ ?_
  ·rintro s13 h
   refine pt_then ?_
   refine yxx hn 0 ?_
   refine ym 0 ?_
   refine ya 0 ?_
   refine yee [2] ?_
   refine ht_ret ?_
   obtain rfl := Option.some.inj h
   exact pt_ret hio rfl (.tmp _ _ .nil) rfl rfl
  ·rintro u14 hl15 hr16 ⟨s10, s11⟩ rr19 h ho17
   refine ht_seq ?_
   refine yyy hn 4 [0,3,4,8] ?_
   refine ht_cond _ rfl (fun hb20 => ?_) (fun hb20 => ?_)
   ·have h := cond_t hb20 h
    refine ht_skip ?_
    refine pt_then (ht_seq ?_)
    refine ht_block ?_
    obtain ⟨v2, hv2, h⟩ := bind_some h
    obtain ⟨v3, hv3, h⟩ := bind_some h
    obtain ⟨v4, hv4, h⟩ := bind_some h
    obtain ⟨v5, hv5, h⟩ := bind_some h
    refine yx hn 0 ?_
    refine ym 2 ?_
    refine ys 0 ⟨lI hv2⟩ ?_
    refine yS (.agg [.v (.int .i64 v3.Kind), .v (.bool v3.Mail.From.Null), .v (.string v3.Mail.From.Local), .v (.string v3.Mail.From.Domain), .fl .shr 3 (List.flatten (List.map T_Path.enc v3.Mail.To)), .fl .shr 1 (List.map (Value.int .u8) v3.Mail.Body), .v (.bool v3.Mail.Quiet), .v (.string v3.Mail.Helo), .v (.int .i64 v3.Mail.At), .v (.int .i64 v3.Id), .fl .shr 1 (List.map (Value.int .i64) v3.Ids), .v (.int .i64 v3.Origin), .v (.int .i64 v3.Number), .v (.int .i64 v3.Offset), .fl .shr 1 (List.map (Value.int .u8) v3.Data)]) 0 ⟨op_loadA_fr _ _ _ _ _ _ _ _ underlying46 rfl sz46 rfl rfl (gflat_get T_Rec.ilen hv3) (.cons (.v _) (.cons (.v _) (.cons (.v _) (.cons (.v _) (.cons (.fl _ _ rfl) (.cons (.fl _ _ rfl) (.cons (.v _) (.cons (.v _) (.cons (.v _) (.cons (.v _) (.cons (.fl _ _ rfl) (.cons (.v _) (.cons (.v _) (.cons (.v _) (.cons (.fl _ _ rfl) (.nil)))))))))))))))) rfl (by decide)⟩ ?_
    refine ys 0 ⟨lk call40 (ok_wherrykeep_TwinRec _ _ hv4)⟩ ?_
    refine yk [16] [] ?_
    refine yt (17, .hid (ownJ 46 15 (List.flatten (List.map oe46 [(T_Rec.mk v4.Kind ((T_Mail.mk (T_Path.mk v4.Mail.From.Null v4.Mail.From.Local v4.Mail.From.Domain) v4.Mail.To v4.Mail.Body v4.Mail.Quiet v4.Mail.Helo v4.Mail.At)) v4.Id v4.Ids v4.Origin v4.Number v4.Offset v4.Data)])))) 0 ⟨op_build1_own _ _ _ 15 (.agg #[.int .i64 0, .bool false, .string ByteArray.empty, .string ByteArray.empty, .slice none 0 0, .slice none 0 0, .bool false, .string ByteArray.empty, .int .i64 0, .int .i64 0, .slice none 0 0, .int .i64 0, .int .i64 0, .int .i64 0, .slice none 0 0]) _ (List.flatten (List.map oe46 [(T_Rec.mk v4.Kind ((T_Mail.mk (T_Path.mk v4.Mail.From.Null v4.Mail.From.Local v4.Mail.From.Domain) v4.Mail.To v4.Mail.Body v4.Mail.Quiet v4.Mail.Helo v4.Mail.At)) v4.Id v4.Ids v4.Origin v4.Number v4.Offset v4.Data)])) underlying31 sz46 zr46 rfl rfl rfl (by decide) (by decide) rfl⟩ ?_
    refine yk [11,17] [] ?_
    refine yn [(11, .any), (17, .any), (18, .hid (ownJ 46 15 (List.flatten (List.map oe46 v5))))] 0 ⟨op_app_own _ 18 11 17 el31 (gflat_len oe46_l _) (gflat_len oe46_l _) hv5 (gflat_app (app_eq hv5))⟩ ?_
    refine ya 0 ?_
    refine ye [0,4,3] ?_
    refine pt_inb ?_
    refine pt_then ?_
    obtain ⟨v6, hv6, h⟩ := bind_some h
    refine yx hn 1 ?_
    refine ys 0 ⟨lb hv6⟩ ?_
    refine yw [4] 1 ?_
    refine ye [0,3,4] ?_
    exact pt_next _ (Option.some.inj h).symm rfl
   ·have h := cond_f hb20 h
    refine ht_exit ?_
    refine pt_x_then ?_
    refine pt_x_then ?_
    refine pt_x_in ?_
    refine pt_pick [1] (by kernel_rfl) (es' := [(_,_)]) rfl ?_
    exact hl15 _ (ho17 _ (Option.some.inj h).symm).symm
theorem ok_diary_Room (p_r : T_Rec) (r : Int) (h : Sh.diary_Room p_r = some r) : FnOK Try.prog 33 [.agg [.v (.int .i64 p_r.Kind), .v (.bool p_r.Mail.From.Null), .v (.string p_r.Mail.From.Local), .v (.string p_r.Mail.From.Domain), .fl .shr 3 (List.flatten (List.map T_Path.enc p_r.Mail.To)), .fl .shr 1 (List.map (Value.int .u8) p_r.Mail.Body), .v (.bool p_r.Mail.Quiet), .v (.string p_r.Mail.Helo), .v (.int .i64 p_r.Mail.At), .v (.int .i64 p_r.Id), .fl .shr 1 (List.map (Value.int .i64) p_r.Ids), .v (.int .i64 p_r.Origin), .v (.int .i64 p_r.Number), .v (.int .i64 p_r.Offset), .fl .shr 1 (List.map (Value.int .u8) p_r.Data)]] (.v (.int .i64 r)) := by
  unfold Sh.diary_Room at h
  refine yO 33 func33 fun g0 hn hio => ?_
  refine yyy hn 2 [1] ?_
  refine ht_seq ?_
  obtain ⟨v1, hv1, h⟩ := bind_some h
  obtain ⟨v2, hv2, h⟩ := bind_some h
  refine yx hn 7 ?_
  refine ys 4 ⟨lb hv1⟩ ?_
  refine ys 1 ⟨lb hv2⟩ ?_
  refine yee [1,3] ?_
  refine ht_seq ?_
  obtain ⟨v3, hv3, h⟩ := bind_some h
  refine yx hn 4 ?_
  refine ys 1 ⟨lb hv3⟩ ?_
  refine yee [1,3,4] ?_
  refine ht_seq ?_
  obtain ⟨v4, hv4, h⟩ := bind_some h
  obtain ⟨v5, hv5, h⟩ := bind_some h
  obtain ⟨v6, hv6, h⟩ := bind_some h
  obtain ⟨v7, hv7, h⟩ := bind_some h
  obtain ⟨v8, hv8, h⟩ := bind_some h
  refine yx hn 1 ?_
  refine ys 1 ⟨lb hv4⟩ ?_
  refine ys 0 ⟨lb hv5⟩ ?_
  refine ys 3 ⟨lb hv6⟩ ?_
  refine ys 0 ⟨lb hv7⟩ ?_
  refine ys 1 ⟨lb hv8⟩ ?_
  refine yee [2] ?_
  refine ht_ret ?_
  obtain rfl := Option.some.inj h
  exact pt_ret hio rfl (.tmp _ _ .nil) rfl rfl
theorem ok_clone_List_api_Path (l : (List T_Path)) (r : (List T_Path)) (h : Sh.clone_List_api_Path l = some r) : FnOK Try.prog 63 [.fl .shr 3 (List.flatten (List.map T_Path.enc l))] (.fl (.own 39) 3 (List.flatten (List.map T_Path.enc r))) := by
  unfold Sh.clone_List_api_Path at h
  refine yO 5 func63 fun g0 hn hio => ?_
  refine yyy hn 1 [0] ?_
  refine ht_seq ?_
  obtain ⟨v1, hv1, h⟩ := bind_some h
  refine yx hn 1 ?_
  refine yS (.fl (.own 39) 3 (List.flatten (List.map T_Path.enc v1))) 0 ⟨op_app_nil _ _ _ _ el40 rfl rfl (flat_len T_Path.len _) hv1 (congrArg (fun l => List.flatten (List.map _ l)) (app_nil_eq hv1))⟩ ?_
  refine ya 0 ?_
  refine yee [2] ?_
  refine ht_ret ?_
  obtain rfl := Option.some.inj h
  exact pt_ret hio rfl (.tmp _ _ .nil) rfl rfl
theorem ok_clone_List_byte (l : (List Int)) (r : (List Int)) (h : Sh.clone_List_byte l = some r) : FnOK Try.prog 58 [.fl .shr 1 (List.map (Value.int .u8) l)] (.fl (.own 5) 1 (List.map (Value.int .u8) r)) := by
  unfold Sh.clone_List_byte at h
  refine yO 5 func58 fun g0 hn hio => ?_
  refine yyy hn 1 [0] ?_
  refine ht_seq ?_
  obtain ⟨v1, hv1, h⟩ := bind_some h
  refine yx hn 1 ?_
  refine yS (.fl (.own 5) 1 (List.map (Value.int .u8) v1)) 0 ⟨op_app_nil _ _ _ _ el41 rfl rfl (map_len _) hv1 (congrArg (List.map _) (app_nil_eq hv1))⟩ ?_
  refine ya 0 ?_
  refine yee [2] ?_
  refine ht_ret ?_
  obtain rfl := Option.some.inj h
  exact pt_ret hio rfl (.tmp _ _ .nil) rfl rfl
theorem ok_clone_Mail (m : T_Mail) (r : T_Mail) (h : Sh.clone_Mail m = some r) : FnOK Try.prog 56 [.agg [.v (.bool m.From.Null), .v (.string m.From.Local), .v (.string m.From.Domain), .fl .shr 3 (List.flatten (List.map T_Path.enc m.To)), .fl .shr 1 (List.map (Value.int .u8) m.Body), .v (.bool m.Quiet), .v (.string m.Helo), .v (.int .i64 m.At)]] (.agg [.v (.bool r.From.Null), .v (.string r.From.Local), .v (.string r.From.Domain), .fl (.own 39) 3 (List.flatten (List.map T_Path.enc r.To)), .fl (.own 5) 1 (List.map (Value.int .u8) r.Body), .v (.bool r.Quiet), .v (.string r.Helo), .v (.int .i64 r.At)]) := by
  unfold Sh.clone_Mail at h
  refine yO 12 func56 fun g0 hn hio => ?_
  refine yxx hn 1 ?_
  refine yS (.box 43 [.v (.bool false), .v (.string (⟨#[]⟩ : ByteArray)), .v (.string (⟨#[]⟩ : ByteArray)), .v (.slice none 0 0), .v (.slice none 0 0), .v (.bool false), .v (.string (⟨#[]⟩ : ByteArray)), .v (.int .i64 0)]) 0 ⟨oA (op_alloc _ _ zr43)⟩ ?_
  refine yee [1,2] ?_
  refine ht_seq ?_
  obtain ⟨v1, hv1, h⟩ := bind_some h
  refine yx hn 2 ?_
  refine ys 1 ⟨lk call63 (ok_clone_List_api_Path _ _ hv1)⟩ ?_
  refine yk [5,1] [6] ?_
  refine yt (1, .box 43 [.v (.bool m.From.Null), .v (.string m.From.Local), .v (.string m.From.Domain), .fl (.own 39) 3 (List.flatten (List.map T_Path.enc v1)), .fl .shr 1 (List.map (Value.int .u8) m.Body), .v (.bool m.Quiet), .v (.string m.Helo), .v (.int .i64 m.At)]) 0 ⟨op_store_take _ _ _ _ _ _ _ _ sz40 rfl rfl rfl (zl rfl) rfl rfl⟩ ?_
  refine yee [1,2] ?_
  refine ht_seq ?_
  obtain ⟨v2, hv2, h⟩ := bind_some h
  refine yx hn 2 ?_
  refine ys 1 ⟨lk call58 (ok_clone_List_byte _ _ hv2)⟩ ?_
  refine yk [9,1] [10] ?_
  refine yt (1, .box 43 [.v (.bool m.From.Null), .v (.string m.From.Local), .v (.string m.From.Domain), .fl (.own 39) 3 (List.flatten (List.map T_Path.enc v1)), .fl (.own 5) 1 (List.map (Value.int .u8) v2), .v (.bool m.Quiet), .v (.string m.Helo), .v (.int .i64 m.At)]) 0 ⟨op_store_take _ _ _ _ _ _ _ _ sz41 rfl rfl rfl (zl rfl) rfl rfl⟩ ?_
  refine yee [1,2] ?_
  refine yxx hn 0 ?_
  refine yk [1] [] ?_
  refine yt (11, .agg [.v (.bool m.From.Null), .v (.string m.From.Local), .v (.string m.From.Domain), .fl (.own 39) 3 (List.flatten (List.map T_Path.enc v1)), .fl (.own 5) 1 (List.map (Value.int .u8) v2), .v (.bool m.Quiet), .v (.string m.Helo), .v (.int .i64 m.At)]) 0 ⟨op_loadA_take _ _ _ _ underlying43 rfl sz43 rfl rfl⟩ ?_
  refine yk [11,2] [] ?_
  refine yt (2, .box 43 [.v (.bool m.From.Null), .v (.string m.From.Local), .v (.string m.From.Domain), .fl (.own 39) 3 (List.flatten (List.map T_Path.enc v1)), .fl (.own 5) 1 (List.map (Value.int .u8) v2), .v (.bool m.Quiet), .v (.string m.Helo), .v (.int .i64 m.At)]) 0 ⟨op_store_take _ _ _ _ _ _ _ _ sz43 rfl rfl rfl (zl rfl) rfl rfl⟩ ?_
  refine yee [2] ?_
  refine ht_ret ?_
  obtain rfl := Option.some.inj h
  exact pt_ret hio rfl (.cellA _ _ _ _ underlying43 rfl sz43 .nil) rfl rfl
theorem ok_clone_List_int (l : (List Int)) (r : (List Int)) (h : Sh.clone_List_int l = some r) : FnOK Try.prog 57 [.fl .shr 1 (List.map (Value.int .i64) l)] (.fl (.own 3) 1 (List.map (Value.int .i64) r)) := by
  unfold Sh.clone_List_int at h
  refine yO 5 func57 fun g0 hn hio => ?_
  refine yyy hn 1 [0] ?_
  refine ht_seq ?_
  obtain ⟨v1, hv1, h⟩ := bind_some h
  refine yx hn 1 ?_
  refine yS (.fl (.own 3) 1 (List.map (Value.int .i64) v1)) 0 ⟨op_app_nil _ _ _ _ el44 rfl rfl (map_len _) hv1 (congrArg (List.map _) (app_nil_eq hv1))⟩ ?_
  refine ya 0 ?_
  refine yee [2] ?_
  refine ht_ret ?_
  obtain rfl := Option.some.inj h
  exact pt_ret hio rfl (.tmp _ _ .nil) rfl rfl
theorem ok_clone_Rec (p_r : T_Rec) (r : T_Rec) (h : Sh.clone_Rec p_r = some r) : FnOK Try.prog 41 [.agg [.v (.int .i64 p_r.Kind), .v (.bool p_r.Mail.From.Null), .v (.string p_r.Mail.From.Local), .v (.string p_r.Mail.From.Domain), .fl .shr 3 (List.flatten (List.map T_Path.enc p_r.Mail.To)), .fl .shr 1 (List.map (Value.int .u8) p_r.Mail.Body), .v (.bool p_r.Mail.Quiet), .v (.string p_r.Mail.Helo), .v (.int .i64 p_r.Mail.At), .v (.int .i64 p_r.Id), .fl .shr 1 (List.map (Value.int .i64) p_r.Ids), .v (.int .i64 p_r.Origin), .v (.int .i64 p_r.Number), .v (.int .i64 p_r.Offset), .fl .shr 1 (List.map (Value.int .u8) p_r.Data)]] (.agg [.v (.int .i64 r.Kind), .v (.bool r.Mail.From.Null), .v (.string r.Mail.From.Local), .v (.string r.Mail.From.Domain), .fl (.own 39) 3 (List.flatten (List.map T_Path.enc r.Mail.To)), .fl (.own 5) 1 (List.map (Value.int .u8) r.Mail.Body), .v (.bool r.Mail.Quiet), .v (.string r.Mail.Helo), .v (.int .i64 r.Mail.At), .v (.int .i64 r.Id), .fl (.own 3) 1 (List.map (Value.int .i64) r.Ids), .v (.int .i64 r.Origin), .v (.int .i64 r.Number), .v (.int .i64 r.Offset), .fl (.own 5) 1 (List.map (Value.int .u8) r.Data)]) := by
  unfold Sh.clone_Rec at h
  refine yO 16 func41 fun g0 hn hio => ?_
  refine yxx hn 1 ?_
  refine yS (.box 46 [.v (.int .i64 0), .v (.bool false), .v (.string (⟨#[]⟩ : ByteArray)), .v (.string (⟨#[]⟩ : ByteArray)), .v (.slice none 0 0), .v (.slice none 0 0), .v (.bool false), .v (.string (⟨#[]⟩ : ByteArray)), .v (.int .i64 0), .v (.int .i64 0), .v (.slice none 0 0), .v (.int .i64 0), .v (.int .i64 0), .v (.int .i64 0), .v (.slice none 0 0)]) 0 ⟨oA (op_alloc _ _ zr46)⟩ ?_
  refine yee [1,2] ?_
  refine ht_seq ?_
  obtain ⟨v1, hv1, h⟩ := bind_some h
  refine yx hn 2 ?_
  refine ys 1 ⟨lk call56 (ok_clone_Mail _ _ hv1)⟩ ?_
  refine yk [5,1] [6] ?_
  refine yt (1, .box 46 [.v (.int .i64 p_r.Kind), .v (.bool v1.From.Null), .v (.string v1.From.Local), .v (.string v1.From.Domain), .fl (.own 39) 3 (List.flatten (List.map T_Path.enc v1.To)), .fl (.own 5) 1 (List.map (Value.int .u8) v1.Body), .v (.bool v1.Quiet), .v (.string v1.Helo), .v (.int .i64 v1.At), .v (.int .i64 p_r.Id), .fl .shr 1 (List.map (Value.int .i64) p_r.Ids), .v (.int .i64 p_r.Origin), .v (.int .i64 p_r.Number), .v (.int .i64 p_r.Offset), .fl .shr 1 (List.map (Value.int .u8) p_r.Data)]) 0 ⟨op_store_take _ _ _ _ _ _ _ _ sz43 rfl rfl rfl (zl rfl) rfl rfl⟩ ?_
  refine yee [1,2] ?_
  refine ht_seq ?_
  obtain ⟨v2, hv2, h⟩ := bind_some h
  refine yx hn 2 ?_
  refine ys 1 ⟨lk call57 (ok_clone_List_int _ _ hv2)⟩ ?_
  refine yk [9,1] [10] ?_
  refine yt (1, .box 46 [.v (.int .i64 p_r.Kind), .v (.bool v1.From.Null), .v (.string v1.From.Local), .v (.string v1.From.Domain), .fl (.own 39) 3 (List.flatten (List.map T_Path.enc v1.To)), .fl (.own 5) 1 (List.map (Value.int .u8) v1.Body), .v (.bool v1.Quiet), .v (.string v1.Helo), .v (.int .i64 v1.At), .v (.int .i64 p_r.Id), .fl (.own 3) 1 (List.map (Value.int .i64) v2), .v (.int .i64 p_r.Origin), .v (.int .i64 p_r.Number), .v (.int .i64 p_r.Offset), .fl .shr 1 (List.map (Value.int .u8) p_r.Data)]) 0 ⟨op_store_take _ _ _ _ _ _ _ _ sz44 rfl rfl rfl (zl rfl) rfl rfl⟩ ?_
  refine yee [1,2] ?_
  refine ht_seq ?_
  obtain ⟨v3, hv3, h⟩ := bind_some h
  refine yx hn 2 ?_
  refine ys 1 ⟨lk call58 (ok_clone_List_byte _ _ hv3)⟩ ?_
  refine yk [13,1] [14] ?_
  refine yt (1, .box 46 [.v (.int .i64 p_r.Kind), .v (.bool v1.From.Null), .v (.string v1.From.Local), .v (.string v1.From.Domain), .fl (.own 39) 3 (List.flatten (List.map T_Path.enc v1.To)), .fl (.own 5) 1 (List.map (Value.int .u8) v1.Body), .v (.bool v1.Quiet), .v (.string v1.Helo), .v (.int .i64 v1.At), .v (.int .i64 p_r.Id), .fl (.own 3) 1 (List.map (Value.int .i64) v2), .v (.int .i64 p_r.Origin), .v (.int .i64 p_r.Number), .v (.int .i64 p_r.Offset), .fl (.own 5) 1 (List.map (Value.int .u8) v3)]) 0 ⟨op_store_take _ _ _ _ _ _ _ _ sz41 rfl rfl rfl (zl rfl) rfl rfl⟩ ?_
  refine yee [1,2] ?_
  refine yxx hn 0 ?_
  refine yk [1] [] ?_
  refine yt (15, .agg [.v (.int .i64 p_r.Kind), .v (.bool v1.From.Null), .v (.string v1.From.Local), .v (.string v1.From.Domain), .fl (.own 39) 3 (List.flatten (List.map T_Path.enc v1.To)), .fl (.own 5) 1 (List.map (Value.int .u8) v1.Body), .v (.bool v1.Quiet), .v (.string v1.Helo), .v (.int .i64 v1.At), .v (.int .i64 p_r.Id), .fl (.own 3) 1 (List.map (Value.int .i64) v2), .v (.int .i64 p_r.Origin), .v (.int .i64 p_r.Number), .v (.int .i64 p_r.Offset), .fl (.own 5) 1 (List.map (Value.int .u8) v3)]) 0 ⟨op_loadA_take _ _ _ _ underlying46 rfl sz46 rfl rfl⟩ ?_
  refine yk [15,2] [] ?_
  refine yt (2, .box 46 [.v (.int .i64 p_r.Kind), .v (.bool v1.From.Null), .v (.string v1.From.Local), .v (.string v1.From.Domain), .fl (.own 39) 3 (List.flatten (List.map T_Path.enc v1.To)), .fl (.own 5) 1 (List.map (Value.int .u8) v1.Body), .v (.bool v1.Quiet), .v (.string v1.Helo), .v (.int .i64 v1.At), .v (.int .i64 p_r.Id), .fl (.own 3) 1 (List.map (Value.int .i64) v2), .v (.int .i64 p_r.Origin), .v (.int .i64 p_r.Number), .v (.int .i64 p_r.Offset), .fl (.own 5) 1 (List.map (Value.int .u8) v3)]) 0 ⟨op_store_take _ _ _ _ _ _ _ _ sz46 rfl rfl rfl (zl rfl) rfl rfl⟩ ?_
  refine yee [2] ?_
  refine ht_ret ?_
  obtain rfl := Option.some.inj h
  exact pt_ret hio rfl (.cellA _ _ _ _ underlying46 rfl sz46 .nil) rfl rfl
theorem ok_clone_List_api_Rec_ro (l : (List T_Rec)) (r : (List T_Rec)) (h : Sh.clone_List_api_Rec_ro l = some r) : FnOK Try.prog 50 [.fr .ro false 15 (List.flatten (List.map T_Rec.ienc l))] (.fr (.own 46) false 15 (List.flatten (List.map T_Rec.ienc r))) := by
  unfold Sh.clone_List_api_Rec_ro at h
  refine yO 5 func50 fun g0 hn hio => ?_
  refine yyy hn 1 [0] ?_
  refine ht_seq ?_
  obtain ⟨v1, hv1, h⟩ := bind_some h
  refine yx hn 1 ?_
  refine yS (.fr (.own 46) false 15 (List.flatten (List.map T_Rec.ienc v1))) 0 ⟨op_app_nil_fr _ _ _ _ el31 rfl rfl (gflat_len T_Rec.ilen _) hv1 (congrArg (fun l => List.flatten (List.map _ l)) (app_nil_eq hv1))⟩ ?_
  refine ya 0 ?_
  refine yee [2] ?_
  refine ht_ret ?_
  obtain rfl := Option.some.inj h
  exact pt_ret hio rfl (.tmp _ _ .nil) rfl rfl
theorem ok_diary_size (l : (List T_Rec)) (r : Int) (h : Sh.diary_size l = some r) : FnOK Try.prog 47 [.fr .shr true 15 (List.flatten (List.map T_Rec.ienc l))] (.v (.int .i64 r)) := by
  unfold Sh.diary_size at h
  refine yO 18 func47 fun g0 hn hio => ?_
  refine yyy hn 1 [0] ?_
  refine yyy hn 1 [0,3] ?_
  refine ht_seq ?_
  refine yyy hn 3 [3,6,7,8] ?_
  refine ht_loopS h (fun ((s10, s11) : Int × Int) => [(3, .v (.int .i64 s10)), (6, .fr .shr true 15 (List.flatten (List.map T_Rec.ienc l))), (7, .v (.int .i64 (l.length : Int))), (8, .v (.int .i64 s11))]) (fun (s13 : Int) => [(3, .v (.int .i64 s13))]) ?_ ?_
  ·rintro s13 h
   refine pt_then ?_
   refine yyy hn 2 [2] ?_
   refine ht_ret ?_
   obtain rfl := Option.some.inj h
   exact pt_ret hio rfl (.tmp _ _ .nil) rfl rfl
  ·rintro u14 hl15 hr16 ⟨s10, s11⟩ rr19 h ho17
   refine yyy hn 1 [3,6,7,8,9] ?_
   refine ht_seq ?_
   refine ht_cond _ rfl (fun hb20 => ?_) (fun hb20 => ?_)
   ·have h := cond_t hb20 h
    refine ht_skip ?_
    refine pt_then (ht_seq ?_)
    refine ht_block ?_
    refine ht_seq ?_
    obtain ⟨v2, hv2, h⟩ := bind_some h
    obtain ⟨v3, hv3, h⟩ := bind_some h
    refine yx hn 0 ?_
    refine ys 0 ⟨lI hv2⟩ ?_
    refine yS (.agg [.v (.int .i64 v3.Kind), .v (.bool v3.Mail.From.Null), .v (.string v3.Mail.From.Local), .v (.string v3.Mail.From.Domain), .fl .shr 3 (List.flatten (List.map T_Path.enc v3.Mail.To)), .fl .shr 1 (List.map (Value.int .u8) v3.Mail.Body), .v (.bool v3.Mail.Quiet), .v (.string v3.Mail.Helo), .v (.int .i64 v3.Mail.At), .v (.int .i64 v3.Id), .fl .shr 1 (List.map (Value.int .i64) v3.Ids), .v (.int .i64 v3.Origin), .v (.int .i64 v3.Number), .v (.int .i64 v3.Offset), .fl .shr 1 (List.map (Value.int .u8) v3.Data)]) 0 ⟨op_loadA_fr _ _ _ _ _ _ _ _ underlying46 rfl sz46 rfl rfl (gflat_get T_Rec.ilen hv3) (.cons (.v _) (.cons (.v _) (.cons (.v _) (.cons (.v _) (.cons (.fl _ _ rfl) (.cons (.fl _ _ rfl) (.cons (.v _) (.cons (.v _) (.cons (.v _) (.cons (.v _) (.cons (.fl _ _ rfl) (.cons (.v _) (.cons (.v _) (.cons (.v _) (.cons (.fl _ _ rfl) (.nil)))))))))))))))) rfl (by decide)⟩ ?_
    refine yS (.box 46 [.v (.int .i64 0), .v (.bool false), .v (.string (⟨#[]⟩ : ByteArray)), .v (.string (⟨#[]⟩ : ByteArray)), .v (.slice none 0 0), .v (.slice none 0 0), .v (.bool false), .v (.string (⟨#[]⟩ : ByteArray)), .v (.int .i64 0), .v (.int .i64 0), .v (.slice none 0 0), .v (.int .i64 0), .v (.int .i64 0), .v (.int .i64 0), .v (.slice none 0 0)]) 1 ⟨oA (op_alloc _ _ zr46)⟩ ?_
    refine yee [3,6,7,8,5] ?_
    obtain ⟨v4, hv4, h⟩ := bind_some h
    obtain ⟨v5, hv5, h⟩ := bind_some h
    refine yx hn 2 ?_
    refine ys 0 ⟨lk call33 (ok_diary_Room _ _ hv4)⟩ ?_
    refine ys 0 ⟨lb hv5⟩ ?_
    refine yw [3] 1 ?_
    refine ye [6,7,8,3] ?_
    refine pt_inb ?_
    refine pt_then ?_
    obtain ⟨v6, hv6, h⟩ := bind_some h
    refine yx hn 0 ?_
    refine ys 0 ⟨lb hv6⟩ ?_
    refine yw [8] 1 ?_
    refine ye [6,7,3,8] ?_
    refine pt_pick [2, 0, 1, 3] (by kernel_rfl) (es' := [(_,_),(_,_),(_,_),(_,_)]) rfl ?_
    exact pt_next _ (Option.some.inj h).symm rfl
   ·have h := cond_f hb20 h
    refine ht_exit ?_
    refine pt_x_then ?_
    refine pt_x_then ?_
    refine pt_x_in ?_
    refine pt_pick [0] (by kernel_rfl) (es' := [(_,_)]) rfl ?_
    exact hl15 _ (ho17 _ (Option.some.inj h).symm).symm
end Go.Proofs.Ytbioodcjmceefaa
