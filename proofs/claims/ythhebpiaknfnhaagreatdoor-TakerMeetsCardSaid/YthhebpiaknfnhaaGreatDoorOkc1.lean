/-
  The model's runs are what is told in Lean.
-/
import Derived.Test.YthhebpiaknfnhaaGreatDoorProg
import Derived.KernelRfl
import Derived.Test.YthhebpiaknfnhaaGreatDoorShelf
import Derived.Test.YthhebpiaknfnhaaGreatDoorIdx
import Derived.Test.YthhebpiaknfnhaaGreatDoorIns
import Derived.Test.YthhebpiaknfnhaaGreatDoorB1
import Derived.Test.YthhebpiaknfnhaaGreatDoorC1
import Derived.Test.YthhebpiaknfnhaaGreatDoorSh
set_option linter.unusedVariables false
set_option linter.unusedSimpArgs false
set_option maxHeartbeats 1000000
namespace Go.Proofs.YthhebpiaknfnhaaGreatDoor
open Go.Abs Go.Abs.Sh Tryz
open List (map flatten)
open Value (int)
def GL (mx:Int):List (Nat×List Value):=[(0, [.int .i64 mx]), (1, (List.map (Value.int .u8) utf8_first)), (2, (List.map (Value.int .u8) utf8_accept))]
theorem gl_mem0 (mx:Int):(0, ([.int .i64 mx]:List Value))∈GL mx := .head _
theorem gl_mem1 (mx:Int):(1, ((List.map (Value.int .u8) utf8_first):List Value))∈GL mx := .tail _ (.head _)
theorem gl_mem2 (mx:Int):(2, ((List.map (Value.int .u8) utf8_accept):List Value))∈GL mx := .tail _ (.tail _ (.head _))
instance iUD22:UD Tryz.prog 22 (.slice 5):=⟨Tryz.underlying22⟩
instance iUD23:UD Tryz.prog 23 (.slice 4):=⟨Tryz.underlying23⟩
instance iUD3:UD Tryz.prog 3 (.int .i64):=⟨Tryz.underlying3⟩
instance iUD24:UD Tryz.prog 24 (.int .u64):=⟨Tryz.underlying24⟩
theorem zr26:(Tryz.prog.info? 26).bind (·.zero)=some (.agg #[.int .i64 0, .slice none 0 0, .bool false, .int .i64 0, .int .i64 0, .int .i64 0, .bool false]):=by kernel_rfl
theorem el22:ElemT Tryz.prog 22 5 1 1:=⟨⟨Tryz.t5, .int .u8 0, Tryz.underlying22, by kernel_rfl, by kernel_rfl, by kernel_rfl, by kernel_rfl, by decide, by kernel_rfl⟩⟩
theorem fs26:∀ fs, Tryz.prog.underlying 26=some (.struct fs)→fs.toList.map (fun f=>(Tryz.prog.info? f.type).map (·.size))=([1, 1, 1, 1, 1, 1, 1]:List Nat).map some:=by
  intro fs h
  rw [Tryz.underlying26] at h
  cases h
  kernel_rfl
theorem sz26:(Tryz.prog.info? 26).map (·.size)=some 7:=by kernel_rfl
theorem sz22:(Tryz.prog.info? 22).map (·.size)=some 1:=by kernel_rfl
instance iFO26_1:FO Tryz.prog 26 1 1:=⟨by kernel_rfl⟩
instance iAG22:AS Tryz.prog 22:=⟨by kernel_rfl⟩
instance iAG26:AA Tryz.prog 26 7:=⟨by kernel_rfl⟩
theorem sz3:(Tryz.prog.info? 3).map (·.size)=some 1:=by kernel_rfl
instance iFO26_0:FO Tryz.prog 26 0 0:=⟨by kernel_rfl⟩
instance iAG3:AS Tryz.prog 3:=⟨by kernel_rfl⟩
instance iFO26_3:FO Tryz.prog 26 3 3:=⟨by kernel_rfl⟩
instance iFO26_4:FO Tryz.prog 26 4 4:=⟨by kernel_rfl⟩
instance iFO26_5:FO Tryz.prog 26 5 5:=⟨by kernel_rfl⟩
instance iFO26_2:FO Tryz.prog 26 2 2:=⟨by kernel_rfl⟩
instance iAG4:AS Tryz.prog 4:=⟨by kernel_rfl⟩
theorem zr33:(Tryz.prog.info? 33).bind (·.zero)=some (.agg #[.slice none 0 0, .int .i64 0, .slice none 0 0, .slice none 0 0, .int .i64 0, .slice none 0 0]):=by kernel_rfl
theorem fs33:∀ fs, Tryz.prog.underlying 33=some (.struct fs)→fs.toList.map (fun f=>(Tryz.prog.info? f.type).map (·.size))=([1, 1, 1, 1, 1, 1]:List Nat).map some:=by
  intro fs h
  rw [Tryz.underlying33] at h
  cases h
  kernel_rfl
theorem sz33:(Tryz.prog.info? 33).map (·.size)=some 6:=by kernel_rfl
instance iAG33:AA Tryz.prog 33 6:=⟨by kernel_rfl⟩
theorem fs36:∀ fs, Tryz.prog.underlying 36=some (.struct fs)→fs.toList.map (fun f=>(Tryz.prog.info? f.type).map (·.size))=([1, 1, 1]:List Nat).map some:=by
  intro fs h
  rw [Tryz.underlying36] at h
  cases h
  kernel_rfl
theorem zr36:(Tryz.prog.info? 36).bind (·.zero)=some (.agg #[.bool false, .int .i64 0, .int .i64 0]):=by kernel_rfl
theorem sz36:(Tryz.prog.info? 36).map (·.size)=some 3:=by kernel_rfl
instance iFO26_6:FO Tryz.prog 26 6 6:=⟨by kernel_rfl⟩
theorem zr44:(Tryz.prog.info? 44).bind (·.zero)=some (.agg #[.int .i64 0, .int .i64 0, .int .i64 0, .int .i64 0, .slice none 0 0]):=by kernel_rfl
theorem fs44:∀ fs, Tryz.prog.underlying 44=some (.struct fs)→fs.toList.map (fun f=>(Tryz.prog.info? f.type).map (·.size))=([1, 1, 1, 1, 1]:List Nat).map some:=by
  intro fs h
  rw [Tryz.underlying44] at h
  cases h
  kernel_rfl
theorem sz44:(Tryz.prog.info? 44).map (·.size)=some 5:=by kernel_rfl
instance iAG44:AA Tryz.prog 44 5:=⟨by kernel_rfl⟩
theorem el37:ElemT Tryz.prog 37 44 5 56:=⟨⟨Tryz.t44, .agg #[.int .i64 0, .int .i64 0, .int .i64 0, .int .i64 0, .slice none 0 0], Tryz.underlying37, by kernel_rfl, by kernel_rfl, by kernel_rfl, by kernel_rfl, by decide, by kernel_rfl⟩⟩
theorem sz5:(Tryz.prog.info? 5).map (·.size)=some 1:=by kernel_rfl
instance iUD37:UD Tryz.prog 37 (.slice 44):=⟨Tryz.underlying37⟩
instance iLiT_Frame:LenI T_Frame.ienc 5:=⟨T_Frame.ilen⟩
instance iSZ4:SZ Tryz.prog 4 1:=⟨by kernel_rfl⟩
instance iFO44_2:FO Tryz.prog 44 2 2:=⟨by kernel_rfl⟩
instance iFO44_3:FO Tryz.prog 44 3 3:=⟨by kernel_rfl⟩
instance iFO44_4:FO Tryz.prog 44 4 4:=⟨by kernel_rfl⟩
instance iFO44_0:FO Tryz.prog 44 0 0:=⟨by kernel_rfl⟩
instance iFO44_1:FO Tryz.prog 44 1 1:=⟨by kernel_rfl⟩
theorem zr67:(Tryz.prog.info? 67).bind (·.zero)=some (.agg #[.bool false, .int .i64 0, .int .i64 0, .slice none 0 0, .slice none 0 0]):=by kernel_rfl
theorem fs67:∀ fs, Tryz.prog.underlying 67=some (.struct fs)→fs.toList.map (fun f=>(Tryz.prog.info? f.type).map (·.size))=([3, 1, 1]:List Nat).map some:=by
  intro fs h
  rw [Tryz.underlying67] at h
  cases h
  kernel_rfl
theorem sz67:(Tryz.prog.info? 67).map (·.size)=some 5:=by kernel_rfl
theorem sz31:(Tryz.prog.info? 31).map (·.size)=some 1:=by kernel_rfl
instance iUD31:UD Tryz.prog 31 (.slice 3):=⟨Tryz.underlying31⟩
instance iSZ3:SZ Tryz.prog 3 1:=⟨by kernel_rfl⟩
instance iFO33_5:FO Tryz.prog 33 5 5:=⟨by kernel_rfl⟩
instance iAG31:AS Tryz.prog 31:=⟨by kernel_rfl⟩
instance iAG36:AA Tryz.prog 36 3:=⟨by kernel_rfl⟩
instance iAG67:AA Tryz.prog 67 5:=⟨by kernel_rfl⟩
instance iFO33_4:FO Tryz.prog 33 4 4:=⟨by kernel_rfl⟩
instance iFO33_3:FO Tryz.prog 33 3 3:=⟨by kernel_rfl⟩
instance iFO36_0:FO Tryz.prog 36 0 0:=⟨by kernel_rfl⟩
instance iFO36_1:FO Tryz.prog 36 1 1:=⟨by kernel_rfl⟩
instance iFO36_2:FO Tryz.prog 36 2 2:=⟨by kernel_rfl⟩
theorem fs53:∀ fs, Tryz.prog.underlying 53=some (.struct fs)→fs.toList.map (fun f=>(Tryz.prog.info? f.type).map (·.size))=([1, 8, 1, 1, 1, 1, 1, 1]:List Nat).map some:=by
  intro fs h
  rw [Tryz.underlying53] at h
  cases h
  kernel_rfl
theorem zr53:(Tryz.prog.info? 53).bind (·.zero)=some (.agg #[.int .i64 0, .bool false, .string ByteArray.empty, .string ByteArray.empty, .slice none 0 0, .slice none 0 0, .bool false, .string ByteArray.empty, .int .i64 0, .int .i64 0, .slice none 0 0, .int .i64 0, .int .i64 0, .int .i64 0, .slice none 0 0]):=by kernel_rfl
theorem sz53:(Tryz.prog.info? 53).map (·.size)=some 15:=by kernel_rfl
theorem sz40:(Tryz.prog.info? 40).map (·.size)=some 1:=by kernel_rfl
instance iFO67_1:FO Tryz.prog 67 1 3:=⟨by kernel_rfl⟩
instance iFO67_0:FO Tryz.prog 67 0 0:=⟨by kernel_rfl⟩
instance iAG40:AS Tryz.prog 40:=⟨by kernel_rfl⟩
instance iFO67_2:FO Tryz.prog 67 2 4:=⟨by kernel_rfl⟩
instance iAG37:AS Tryz.prog 37:=⟨by kernel_rfl⟩
instance iUD40:UD Tryz.prog 40 (.slice 53):=⟨Tryz.underlying40⟩
instance iLiT_Rec:LenI T_Rec.ienc 15:=⟨T_Rec.ilen⟩
instance iFO53_0:FO Tryz.prog 53 0 0:=⟨by kernel_rfl⟩
theorem fs51:∀ fs, Tryz.prog.underlying 51=some (.struct fs)→fs.toList.map (fun f=>(Tryz.prog.info? f.type).map (·.size))=([3, 1, 1, 1, 1, 1]:List Nat).map some:=by
  intro fs h
  rw [Tryz.underlying51] at h
  cases h
  kernel_rfl
theorem zr51:(Tryz.prog.info? 51).bind (·.zero)=some (.agg #[.bool false, .string ByteArray.empty, .string ByteArray.empty, .slice none 0 0, .slice none 0 0, .bool false, .string ByteArray.empty, .int .i64 0]):=by kernel_rfl
theorem sz51:(Tryz.prog.info? 51).map (·.size)=some 8:=by kernel_rfl
instance iFO53_1:FO Tryz.prog 53 1 1:=⟨by kernel_rfl⟩
instance iAG51:AA Tryz.prog 51 8:=⟨by kernel_rfl⟩
instance iFO53_2:FO Tryz.prog 53 2 9:=⟨by kernel_rfl⟩
instance iFO53_4:FO Tryz.prog 53 4 11:=⟨by kernel_rfl⟩
instance iFO53_5:FO Tryz.prog 53 5 12:=⟨by kernel_rfl⟩
instance iFO53_3:FO Tryz.prog 53 3 10:=⟨by kernel_rfl⟩
instance iFO53_6:FO Tryz.prog 53 6 13:=⟨by kernel_rfl⟩
instance iFO53_7:FO Tryz.prog 53 7 14:=⟨by kernel_rfl⟩
instance iAG53:AA Tryz.prog 53 15:=⟨by kernel_rfl⟩
theorem sz48:(Tryz.prog.info? 48).map (·.size)=some 3:=by kernel_rfl
theorem fs48:∀ fs, Tryz.prog.underlying 48=some (.struct fs)→fs.toList.map (fun f=>(Tryz.prog.info? f.type).map (·.size))=([1, 1, 1]:List Nat).map some:=by
  intro fs h
  rw [Tryz.underlying48] at h
  cases h
  kernel_rfl
theorem zr48:(Tryz.prog.info? 48).bind (·.zero)=some (.agg #[.bool false, .string ByteArray.empty, .string ByteArray.empty]):=by kernel_rfl
theorem sz49:(Tryz.prog.info? 49).map (·.size)=some 1:=by kernel_rfl
instance iFO51_0:FO Tryz.prog 51 0 0:=⟨by kernel_rfl⟩
instance iAG48:AA Tryz.prog 48 3:=⟨by kernel_rfl⟩
instance iFO51_1:FO Tryz.prog 51 1 3:=⟨by kernel_rfl⟩
instance iAG49:AS Tryz.prog 49:=⟨by kernel_rfl⟩
instance iUD49:UD Tryz.prog 49 (.slice 48):=⟨Tryz.underlying49⟩
instance iLT_Path:LenE T_Path.enc 3:=⟨T_Path.len⟩
instance iFO51_2:FO Tryz.prog 51 2 4:=⟨by kernel_rfl⟩
instance iFO51_3:FO Tryz.prog 51 3 5:=⟨by kernel_rfl⟩
instance iFO51_4:FO Tryz.prog 51 4 6:=⟨by kernel_rfl⟩
instance iAG9:AS Tryz.prog 9:=⟨by kernel_rfl⟩
instance iFO51_5:FO Tryz.prog 51 5 7:=⟨by kernel_rfl⟩
theorem sz30:(Tryz.prog.info? 30).map (·.size)=some 1:=by kernel_rfl
theorem zr4:(Tryz.prog.info? 4).bind (·.zero)=some (.bool false):=by kernel_rfl
instance iUD9:UD Tryz.prog 9 .string:=⟨Tryz.underlying9⟩
instance iUD5:UD Tryz.prog 5 (.int .u8):=⟨Tryz.underlying5⟩
instance iUD21:UD Tryz.prog 21 (.int .i32):=⟨Tryz.underlying21⟩
instance iAG110:AS Tryz.prog 110:=⟨by kernel_rfl⟩
instance iFO48_0:FO Tryz.prog 48 0 0:=⟨by kernel_rfl⟩
instance iFO48_1:FO Tryz.prog 48 1 1:=⟨by kernel_rfl⟩
instance iFO48_2:FO Tryz.prog 48 2 2:=⟨by kernel_rfl⟩
instance iSZ48:SZ Tryz.prog 48 3:=⟨by kernel_rfl⟩
theorem zr27:(Tryz.prog.info? 27).bind (·.zero)=some (.int .i64 0):=by kernel_rfl
theorem zr3:(Tryz.prog.info? 3).bind (·.zero)=some (.int .i64 0):=by kernel_rfl
theorem zr5:(Tryz.prog.info? 5).bind (·.zero)=some (.int .u8 0):=by kernel_rfl
instance iAG27:AS Tryz.prog 27:=⟨by kernel_rfl⟩
instance iFO33_0:FO Tryz.prog 33 0 0:=⟨by kernel_rfl⟩
instance iAG30:AS Tryz.prog 30:=⟨by kernel_rfl⟩
instance iUD30:UD Tryz.prog 30 (.slice 88):=⟨Tryz.underlying30⟩
instance iLiT_Item:LenI T_Item.ienc 11:=⟨T_Item.ilen⟩
theorem sz88:(Tryz.prog.info? 88).map (·.size)=some 11:=by kernel_rfl
instance iFO88_0:FO Tryz.prog 88 0 0:=⟨by kernel_rfl⟩
instance iSZ88:SZ Tryz.prog 88 11:=⟨by kernel_rfl⟩
instance iFO88_2:FO Tryz.prog 88 2 9:=⟨by kernel_rfl⟩
instance iFO33_1:FO Tryz.prog 33 1 1:=⟨by kernel_rfl⟩
instance iFO33_2:FO Tryz.prog 33 2 2:=⟨by kernel_rfl⟩
theorem zr88:(Tryz.prog.info? 88).bind (·.zero)=some (.agg #[.int .i64 0, .bool false, .string ByteArray.empty, .string ByteArray.empty, .slice none 0 0, .slice none 0 0, .bool false, .string ByteArray.empty, .int .i64 0, .int .i64 0, .int .i64 0]):=by kernel_rfl
instance iAG88:AA Tryz.prog 88 11:=⟨by kernel_rfl⟩
theorem el49:ElemT Tryz.prog 49 48 3 40:=⟨⟨Tryz.t48, .agg #[.bool false, .string ByteArray.empty, .string ByteArray.empty], Tryz.underlying49, by kernel_rfl, by kernel_rfl, by kernel_rfl, by kernel_rfl, by decide, by kernel_rfl⟩⟩
instance iFO88_1:FO Tryz.prog 88 1 1:=⟨by kernel_rfl⟩
theorem el30:ElemT Tryz.prog 30 88 11 144:=⟨⟨Tryz.t88, .agg #[.int .i64 0, .bool false, .string ByteArray.empty, .string ByteArray.empty, .slice none 0 0, .slice none 0 0, .bool false, .string ByteArray.empty, .int .i64 0, .int .i64 0, .int .i64 0], Tryz.underlying30, by kernel_rfl, by kernel_rfl, by kernel_rfl, by kernel_rfl, by decide, by kernel_rfl⟩⟩
theorem el31:ElemT Tryz.prog 31 3 1 8:=⟨⟨Tryz.t3, .int .i64 0, Tryz.underlying31, by kernel_rfl, by kernel_rfl, by kernel_rfl, by kernel_rfl, by decide, by kernel_rfl⟩⟩
theorem fs88:∀ fs, Tryz.prog.underlying 88=some (.struct fs)→fs.toList.map (fun f=>(Tryz.prog.info? f.type).map (·.size))=([1, 8, 1, 1]:List Nat).map some:=by
  intro fs h
  rw [Tryz.underlying88] at h
  cases h
  kernel_rfl
instance iFO88_3:FO Tryz.prog 88 3 10:=⟨by kernel_rfl⟩
theorem ins45:InsOK Tryz.prog 45 3:=insOK_int Tryz.lays2_21
instance iSZ5:SZ Tryz.prog 5 1:=⟨by kernel_rfl⟩
instance iAG5:AS Tryz.prog 5:=⟨by kernel_rfl⟩
instance iSZ44:SZ Tryz.prog 44 5:=⟨by kernel_rfl⟩
abbrev T_Rec.c (x:T_Rec) (r:List AV):List AV:=vi x.Kind::vb x.Mail.From.Null::vs x.Mail.From.Local::vs x.Mail.From.Domain :: .fl .shr 3 (flatten (map T_Path.enc x.Mail.To))::fb x.Mail.Body::vb x.Mail.Quiet::vs x.Mail.Helo::vi x.Mail.At::vi x.Id::fi x.Ids::vi x.Origin::vi x.Number::vi x.Offset::fb x.Data::r
abbrev T_Item.c (x:T_Item) (r:List AV):List AV:=vi x.Id::vb x.Mail.From.Null::vs x.Mail.From.Local::vs x.Mail.From.Domain :: .fl .shr 3 (flatten (map T_Path.enc x.Mail.To))::fb x.Mail.Body::vb x.Mail.Quiet::vs x.Mail.Helo::vi x.Mail.At::vi x.State::vi x.Pack::r
abbrev T_Mail.c (x:T_Mail) (r:List AV):List AV:=vb x.From.Null::vs x.From.Local::vs x.From.Domain :: .fl .shr 3 (flatten (map T_Path.enc x.To))::fb x.Body::vb x.Quiet::vs x.Helo::vi x.At::r
abbrev T_Send.c (x:T_Send) (r:List AV):List AV:=vi x.Number::fb x.Data::vb x.Ready::vi x.Base::vi x.Next::vi x.Wait::vb x.Over::r
abbrev T_Spool.c (x:T_Spool) (r:List AV):List AV := .fr .shr true 11 (flatten (map T_Item.ienc x.Items))::vi x.Packs::fi x.Sent::fb x.Part::vi x.Of::fi x.Done::r
abbrev T_Frame.c (x:T_Frame) (r:List AV):List AV:=vi x.Kind::vi x.Number::vi x.Offset::vi x.Seq::fb x.Data::r
abbrev T_taker_result.c (x:T_taker_result) (r:List AV):List AV:=vb x.take.Open::vi x.take.Number::vi x.take.Total :: .fr .shr true 15 (flatten (map T_Rec.ienc x.recs)) :: .fr .shr true 5 (flatten (map T_Frame.ienc x.out))::r
theorem ok_clone_List_byte (l:(List Int)) (r:(List Int)) (h:Sh.clone_List_byte l=some r):FnOK Tryz.prog 13 [.fl .shr 1 (map (int .u8) l)] (.fl (.own 5) 1 (map (int .u8) r)):=by
  unfold Sh.clone_List_byte at h
  refine yO 5 func13 fun g0 hn hio => ?_
  refine yyy hn 1 [0] ?_
  refine ht_seq ?_
  obtain ⟨v1, hv1, h⟩:=zn h
  refine yx hn 1 ?_
  refine yS (.fl (.own 5) 1 (map (int .u8) v1)) 0 ⟨op_app_nil _ _ _ _ el22 rfl rfl (map_len _) hv1 (congrArg (map _) (app_nil_eq hv1))⟩ ?_
  refine ya 0 ?_
  refine yee [2] ?_
  refine ht_ret ?_
  obtain rfl:=zi h
  exact pt_ret hio rfl (.tmp _ _ .nil) rfl rfl
theorem ok_sender_pieces (s:T_Send) (r:Int) (h:Sh.sender_pieces s=some r):FnOK Tryz.prog 17 [.agg [.v (.int .i64 s.Number), .fl .shr 1 (map (int .u8) s.Data), .v (.bool s.Ready), .v (.int .i64 s.Base), .v (.int .i64 s.Next), .v (.int .i64 s.Wait), .v (.bool s.Over)]] (.v (.int .i64 r)):=by
  unfold Sh.sender_pieces at h
  refine yO 9 func17 fun g0 hn hio => ?_
  refine yyy hn 2 [1] ?_
  refine ht_seq ?_
  obtain ⟨v1, hv1, h⟩:=zn h
  obtain ⟨v2, hv2, h⟩:=zn h
  obtain ⟨v3, hv3, h⟩:=zn h
  refine yx hn 3 ?_
  refine ys 0 ⟨lb hv1⟩ ?_
  refine ys 0 ⟨lb hv2⟩ ?_
  refine ys 1 ⟨lB (quo_ok hv3)⟩ ?_
  refine yee [2] ?_
  refine ht_ret ?_
  obtain rfl:=zi h
  exact pt_ret hio rfl (.tmp _ _ .nil) rfl rfl
theorem ok_sender_window (s:T_Send) (r:Int) (h:Sh.sender_window s=some r):FnOK Tryz.prog 16 [.agg [.v (.int .i64 s.Number), .fl .shr 1 (map (int .u8) s.Data), .v (.bool s.Ready), .v (.int .i64 s.Base), .v (.int .i64 s.Next), .v (.int .i64 s.Wait), .v (.bool s.Over)]] (.v (.int .i64 r)):=by
  unfold Sh.sender_window at h
  refine yO 9 func16 fun g0 hn hio => ?_
  refine yyy hn 2 [1] ?_
  refine ht_seq ?_
  obtain ⟨v1, hv1, h⟩:=zn h
  obtain ⟨v2, hv2, h⟩:=zn h
  obtain ⟨v3, hv3, h⟩:=zn h
  refine wb [[1],[3,1]] ?_
  refine wN [4] ?_
  refine wo [[1]] ⟨lb hv1⟩ ?_
  refine wN [6] ?_
  refine wo [] ⟨lk call17 (ok_sender_pieces _ _ hv2)⟩ ?_
  refine wN [5,7] ?_
  refine wS (vi v3) [[8]] ⟨(Option.some.inj hv3) ▸ op_min _ _ _ _ rfl rfl⟩ ?_
  refine wee hn [2] ?_
  refine ht_ret ?_
  obtain rfl:=zi h
  exact pt_ret hio rfl (.tmp _ _ .nil) rfl rfl
theorem ok_sender_Check (s:T_Send) (r:Int) (h:Sh.sender_Check s=some r):FnOK Tryz.prog 14 [.agg [.v (.int .i64 s.Number), .fl .shr 1 (map (int .u8) s.Data), .v (.bool s.Ready), .v (.int .i64 s.Base), .v (.int .i64 s.Next), .v (.int .i64 s.Wait), .v (.bool s.Over)]] (.v (.int .i64 r)):=by
  unfold Sh.sender_Check at h
  refine yO 67 func14 fun g0 hn hio => ?_
  refine yyy hn 2 [1] ?_
  refine ht_seq ?_
  obtain ⟨v1, hv1, h⟩:=zn h
  refine yx hn 1 ?_
  refine ys 1 ⟨lk call17 (ok_sender_pieces _ _ hv1)⟩ ?_
  refine yee [1,3] ?_
  refine ht_seq ?_
  refine ht_block ?_
  refine ht_seq ?_
  refine ht_joinS h (fun (s32:Bool)=>[(6,vb s32)]) ?_ ?_
  ·rintro s32 h
   refine pt_then ?_
   refine ht_cond _ rfl (fun hb65 => ?_) (fun hb65 => ?_)
   ·have h:=cond_t hb65 h
    refine yyy hn 1 [2] ?_
    refine ht_ret ?_
    refine pt_r_in ?_
    refine pt_r_then ?_
    obtain rfl:=zi h
    exact pt_ret hio rfl (.tmp _ _ .nil) rfl rfl
   ·have h:=cond_f hb65 h
    refine ht_skip ?_
    refine pt_inb ?_
    refine pt_then ?_
    refine yyy hn 1 [2] ?_
    refine ht_ret ?_
    obtain rfl:=zi h
    exact pt_ret hio rfl (.tmp _ _ .nil) rfl rfl
  ·intro u33 h hl34 hr35
   refine ht_seq ?_
   refine ht_joinS h (fun (s36:Bool)=>[(1,.box 26 (T_Send.c s [])),(3,vi v1),(6,vb s36)]) ?_ ?_
   ·rintro s36 h
    refine pt_then ?_
    refine ht_cond _ rfl (fun hb40 => ?_) (fun hb40 => ?_)
    ·have h:=cond_t hb40 h
     refine ht_skip ?_
     refine pt_pick [2] (by kernel_rfl) (es':=[(_,_)]) rfl ?_
     exact hl34 _ (zi h).symm
    ·have h:=cond_f hb40 h
     refine ht_seq ?_
     refine ht_joinS h (fun (s41:Bool)=>[(1,.box 26 (T_Send.c s [])),(3,vi v1),(6,vb s41)]) ?_ ?_
     ·rintro s41 h
      refine pt_then ?_
      refine ht_cond _ rfl (fun hb45 => ?_) (fun hb45 => ?_)
      ·have h:=cond_t hb45 h
       refine ht_skip ?_
       refine pt_pick [2] (by kernel_rfl) (es':=[(_,_)]) rfl ?_
       exact hl34 _ (zi h).symm
      ·have h:=cond_f hb45 h
       refine ht_seq ?_
       refine ht_joinS h (fun (s46:Bool)=>[(1,.box 26 (T_Send.c s [])),(6,vb s46)]) ?_ ?_
       ·rintro s46 h
        refine pt_then ?_
        refine ht_cond _ rfl (fun hb50 => ?_) (fun hb50 => ?_)
        ·have h:=cond_t hb50 h
         refine ht_skip ?_
         refine pt_pick [1] (by kernel_rfl) (es':=[(_,_)]) rfl ?_
         exact hl34 _ (zi h).symm
        ·have h:=cond_f hb50 h
         refine ht_seq ?_
         refine ht_joinS h (fun (s51:Bool)=>[(1,.box 26 (T_Send.c s [])),(6,vb s51)]) ?_ ?_
         ·rintro s51 h
          refine pt_then ?_
          refine ht_cond _ rfl (fun hb55 => ?_) (fun hb55 => ?_)
          ·have h:=cond_t hb55 h
           refine ht_skip ?_
           refine pt_pick [1] (by kernel_rfl) (es':=[(_,_)]) rfl ?_
           exact hl34 _ (zi h).symm
          ·have h:=cond_f hb55 h
           refine ht_seq ?_
           refine ht_joinS h (fun (s56:Bool)=>[(1,.box 26 (T_Send.c s [])),(6,vb s56)]) ?_ ?_
           ·rintro s56 h
            refine pt_then ?_
            refine ht_cond _ rfl (fun hb60 => ?_) (fun hb60 => ?_)
            ·have h:=cond_t hb60 h
             refine ht_skip ?_
             refine pt_pick [1] (by kernel_rfl) (es':=[(_,_)]) rfl ?_
             exact hl34 _ (zi h).symm
            ·have h:=cond_f hb60 h
             refine ht_joinS h (fun (s61:Bool)=>[(6,vb s61)]) ?_ ?_
             ·rintro s61 h
              exact hl34 _ (zi h).symm
             ·intro u62 h hl63 hr64
              refine cond_some h (fun hg7_3 h => ?_) (fun hg7_3 h => ?_)
              ·refine cond_some h (fun hg7_7 h => ?_) (fun hg7_7 h => ?_)
               ·refine yx hn 4 ?_
                refine yd hg7_3 4 ?_
                refine yd hg7_7 5 ?_
                refine yw [6] 1 ?_
                refine ye [6] ?_
                exact hl63 _ (zi h).symm
               ·refine yx hn 4 ?_
                refine yd hg7_3 4 ?_
                refine yd hg7_7 5 ?_
                refine yw [6] 1 ?_
                refine ye [6] ?_
                exact hl63 _ (zi h).symm
              ·refine yx hn 4 ?_
               refine yd hg7_3 9 ?_
               refine yw [6] 1 ?_
               refine ye [6] ?_
               exact hl63 _ (zi h).symm
           ·intro u57 h hl58 hr59
            refine cond_some h (fun hg6_3 h => ?_) (fun hg6_3 h => ?_)
            ·refine yx hn 4 ?_
             refine yd hg6_3 4 ?_
             refine yw [6] 1 ?_
             refine ye [1,6] ?_
             exact hl58 _ (zi h).symm
            ·refine yx hn 4 ?_
             refine yd hg6_3 4 ?_
             refine yw [6] 1 ?_
             refine ye [1,6] ?_
             exact hl58 _ (zi h).symm
         ·intro u52 h hl53 hr54
          refine cond_some h (fun hg5_5 h => ?_) (fun hg5_5 h => ?_)
          ·refine wb [[1],[34,1],[1],[36,1],[35,37],[38]] ?_
           refine wd hg5_5 [[39],[39],[39],[39],[39],[39]] ?_
           refine wK [6] [45] ?_
           refine wt [(6,vb true)] [] ⟨LOp.drop [_] (op_assign _ _ _ _ rfl rfl)⟩ ?_
           refine we hn [1,6] ?_
           exact hl53 _ (zi h).symm
          ·obtain ⟨v17, hv17, h⟩:=zn h
           refine wb [[1],[34,1],[1],[36,1],[35,37],[38]] ?_
           refine wd hg5_5 [[39,1],[39,40,1],[39,1]] ?_
           refine wN [39,42] ?_
           refine wo [[39,41,43],[39,44]] ⟨lk call16 (ok_sender_window _ _ hv17)⟩ ?_
           refine wK [6] [45] ?_
           refine wt [(6,vb (decide (v17<s.Next)))] [] ⟨LOp.drop [_] (op_assign _ _ _ _ rfl rfl)⟩ ?_
           refine we hn [1,6] ?_
           exact hl53 _ (zi h).symm
       ·intro u47 h hl48 hr49
        refine cond_some h (fun hg4_3 h => ?_) (fun hg4_3 h => ?_)
        ·refine yx hn 4 ?_
         refine yd hg4_3 5 ?_
         refine yw [6] 1 ?_
         refine ye [1,6] ?_
         exact hl48 _ (zi h).symm
        ·refine yx hn 4 ?_
         refine yd hg4_3 5 ?_
         refine yw [6] 1 ?_
         refine ye [1,6] ?_
         exact hl48 _ (zi h).symm
     ·intro u42 h hl43 hr44
      refine cond_some h (fun hg3_4 h => ?_) (fun hg3_4 h => ?_)
      ·refine yx hn 5 ?_
       refine yd hg3_4 5 ?_
       refine yw [6] 1 ?_
       refine ye [1,3,6] ?_
       exact hl43 _ (zi h).symm
      ·refine yx hn 5 ?_
       refine yd hg3_4 5 ?_
       refine yw [6] 1 ?_
       refine ye [1,3,6] ?_
       exact hl43 _ (zi h).symm
   ·intro u37 h hl38 hr39
    refine cond_some h (fun hg2_3 h => ?_) (fun hg2_3 h => ?_)
    ·refine yx hn 4 ?_
     refine yd hg2_3 5 ?_
     refine ye [1,3,6] ?_
     exact hl38 _ (zi h).symm
    ·refine yx hn 4 ?_
     refine yd hg2_3 5 ?_
     refine ye [1,3,6] ?_
     exact hl38 _ (zi h).symm
theorem ok_sender_New (number:Int) (data:(List Int)) (r:(T_Send×Int)) (h:Sh.sender_New number data=some r):FnOK Tryz.prog 4 [.v (.int .i64 number), .fl .shr 1 (map (int .u8) data)] (.tup [.agg [.v (.int .i64 r.1.Number), .fl (.own 5) 1 (map (int .u8) r.1.Data), .v (.bool r.1.Ready), .v (.int .i64 r.1.Base), .v (.int .i64 r.1.Next), .v (.int .i64 r.1.Wait), .v (.bool r.1.Over)], .v (.int .i64 r.2)]):=by
  unfold Sh.sender_New at h
  refine yO 19 func4 fun g0 hn hio => ?_
  refine yxx hn 0 ?_
  refine yS (.box 26 [vi 0,vz,vb false,vi 0,vi 0,vi 0,vb false]) 1 ⟨oA (op_alloc _ _ zr26)⟩ ?_
  refine yee [0,1,4] ?_
  refine ht_seq ?_
  obtain ⟨v1, hv1, h⟩:=zn h
  refine yx hn 2 ?_
  refine ys 0 ⟨lk call13 (ok_clone_List_byte _ _ hv1)⟩ ?_
  refine yk [10] [8] ?_
  refine yt (11,.agg [vi number,.fl (.own 5) 1 (map (int .u8) v1),vb false,vi 0,vi 0,vi 0,vb false]) 0 ⟨op_build _ _ _ _ [1,1,1,1,1,1,1] _ _ underlying26 zr26 (fs26 _ underlying26) (.copy _ (.take _ _ Src.nil)) rfl rfl rfl⟩ ?_
  refine yS (.box 26 [vi 0,vz,vb false,vi 0,vi 0,vi 0,vb false]) 0 ⟨oA (op_alloc _ _ zr26)⟩ ?_
  refine yk [11,6] [] ?_
  refine yt (6,.box 26 [vi number,.fl (.own 5) 1 (map (int .u8) v1),vb false,vi 0,vi 0,vi 0,vb false]) 0 ⟨op_store_take _ _ _ _ _ _ _ _ sz26 rfl rfl rfl (zl rfl) rfl rfl⟩ ?_
  refine yee [4,6] ?_
  refine ht_seq ?_
  refine ht_seq ?_
  obtain ⟨v2, hv2, h⟩:=zn h
  refine yx hn 1 ?_
  refine ys 1 ⟨lk call14 (ok_sender_Check _ _ hv2)⟩ ?_
  refine yee [4,6,7] ?_
  refine yyy hn 2 [4,6,7,15] ?_
  refine ht_cond _ rfl (fun hb3 => ?_) (fun hb3 => ?_)
  ·have h:=cond_t hb3 h
   refine yxx hn 0 ?_
   refine yS (.agg [vi 0,vz,vb false,vi 0,vi 0,vi 0,vb false]) 1 ⟨op_build _ _ _ _ [1,1,1,1,1,1,1] _ _ underlying26 zr26 (fs26 _ underlying26) Src.nil rfl rfl rfl⟩ ?_
   refine yk [16,4] [] ?_
   refine yt (4,.box 26 [vi 0,vz,vb false,vi 0,vi 0,vi 0,vb false]) 1 ⟨op_store_self _ _ _ 16 4 7 sz26 rfl rfl rfl rfl rfl (.eq _ (.eq _ (.eq _ (.eq _ (.eq _ (.eq _ (.eq _ (.nil _)))))))) rfl⟩ ?_
   refine yee [4,5] ?_
   refine ht_ret ?_
   refine pt_sub (fs:=[(4,.box 26 [vi 0,.fl (.own 5) 1 (map (int .u8) []),vb false,vi 0,vi 0,vi 0,vb false]),(5,vi v2)]) (.box _ _ (subs_cons (sub_refl _) (subs_cons (sub_nil 5 1) (subs_cons (sub_refl _) (subs_cons (sub_refl _) (subs_cons (sub_refl _) (subs_cons (sub_refl _) (subs_cons (sub_refl _) (subs_nil)))))))) rfl (.same _ .nil)) ?_
   refine pt_r_then ?_
   obtain rfl:=zi h
   exact pt_ret hio rfl (.cellA _ _ _ _ underlying26 rfl sz26 (.tmp _ _ .nil)) rfl rfl
  ·have h:=cond_f hb3 h
   refine ht_skip ?_
   refine pt_then ?_
   refine yxx hn 0 ?_
   refine yk [6] [] ?_
   refine yt (18,.agg [vi number,.fl (.own 5) 1 (map (int .u8) v1),vb false,vi 0,vi 0,vi 0,vb false]) 0 ⟨op_loadA_take _ _ _ _ underlying26 rfl sz26 rfl rfl⟩ ?_
   refine yk [18,4] [] ?_
   refine yt (4,.box 26 [vi number,.fl (.own 5) 1 (map (int .u8) v1),vb false,vi 0,vi 0,vi 0,vb false]) 1 ⟨op_store_take _ _ _ _ _ _ _ _ sz26 rfl rfl rfl (zl rfl) rfl rfl⟩ ?_
   refine yee [4,5] ?_
   refine ht_ret ?_
   obtain rfl:=zi h
   exact pt_ret hio rfl (.cellA _ _ _ _ underlying26 rfl sz26 (.tmp _ _ .nil)) rfl rfl
theorem ok_spool_New (r:T_Spool) (h:Sh.spool_New  = some r):FnOK Tryz.prog 5 [] (.agg [.fr (.own 88) false 11 (flatten (map T_Item.ienc r.Items)), .v (.int .i64 r.Packs), .fl (.own 3) 1 (map (int .i64) r.Sent), .fl (.own 5) 1 (map (int .u8) r.Part), .v (.int .i64 r.Of), .fl (.own 3) 1 (map (int .i64) r.Done)]):=by
  unfold Sh.spool_New at h
  refine yO 2 func5 fun g0 hn hio => ?_
  refine yxx hn 0 ?_
  refine yS (.box 33 [vz,vi 0,vz,vz,vi 0,vz]) 0 ⟨oA (op_alloc _ _ zr33)⟩ ?_
  refine yee [0] ?_
  refine yxx hn 0 ?_
  refine yS (.agg [vz,vi 0,vz,vz,vi (-1),vz]) 1 ⟨op_build _ _ _ _ [1,1,1,1,1,1] _ _ underlying33 zr33 (fs33 _ underlying33) (.copy _ Src.nil) rfl rfl rfl⟩ ?_
  refine yee [0] ?_
  refine ht_ret ?_
  refine pt_sub (fs:=[(0,.box 33 [.fr (.own 88) false 11 (flatten (map T_Item.ienc [])),vi 0,.fl (.own 3) 1 (map (int .i64) []),.fl (.own 5) 1 (map (int .u8) []),vi (-1),.fl (.own 3) 1 (map (int .i64) [])])]) (.box _ _ (subs_cons (sub_nil_fr 88 false 11) (subs_cons (sub_refl _) (subs_cons (sub_nil 3 1) (subs_cons (sub_nil 5 1) (subs_cons (sub_refl _) (subs_cons (sub_nil 3 1) (subs_nil))))))) rfl .nil) ?_
  obtain rfl:=zi h
  exact pt_ret hio rfl (.cellA _ _ _ _ underlying33 rfl sz33 .nil) rfl rfl
theorem ok_clone_Send (s:T_Send) (r:T_Send) (h:Sh.clone_Send s=some r):FnOK Tryz.prog 15 [.agg [.v (.int .i64 s.Number), .fl .shr 1 (map (int .u8) s.Data), .v (.bool s.Ready), .v (.int .i64 s.Base), .v (.int .i64 s.Next), .v (.int .i64 s.Wait), .v (.bool s.Over)]] (.agg [.v (.int .i64 r.Number), .fl (.own 5) 1 (map (int .u8) r.Data), .v (.bool r.Ready), .v (.int .i64 r.Base), .v (.int .i64 r.Next), .v (.int .i64 r.Wait), .v (.bool r.Over)]):=by
  unfold Sh.clone_Send at h
  refine yO 8 func15 fun g0 hn hio => ?_
  refine yxx hn 1 ?_
  refine yS (.box 26 [vi 0,vz,vb false,vi 0,vi 0,vi 0,vb false]) 0 ⟨oA (op_alloc _ _ zr26)⟩ ?_
  refine yee [1,2] ?_
  refine ht_seq ?_
  obtain ⟨v1, hv1, h⟩:=zn h
  refine yx hn 2 ?_
  refine ys 1 ⟨lk call13 (ok_clone_List_byte _ _ hv1)⟩ ?_
  refine yk [5,1] [6] ?_
  refine yt (1,.box 26 [vi s.Number,.fl (.own 5) 1 (map (int .u8) v1),vb s.Ready,vi s.Base,vi s.Next,vi s.Wait,vb s.Over]) 0 ⟨op_store_take _ _ _ _ _ _ _ _ sz22 rfl rfl rfl (zl rfl) rfl rfl⟩ ?_
  refine yee [1,2] ?_
  refine yxx hn 0 ?_
  refine yk [1] [] ?_
  refine yt (7,.agg [vi s.Number,.fl (.own 5) 1 (map (int .u8) v1),vb s.Ready,vi s.Base,vi s.Next,vi s.Wait,vb s.Over]) 0 ⟨op_loadA_take _ _ _ _ underlying26 rfl sz26 rfl rfl⟩ ?_
  refine yk [7,2] [] ?_
  refine yt (2,.box 26 [vi s.Number,.fl (.own 5) 1 (map (int .u8) v1),vb s.Ready,vi s.Base,vi s.Next,vi s.Wait,vb s.Over]) 0 ⟨op_store_take _ _ _ _ _ _ _ _ sz26 rfl rfl rfl (zl rfl) rfl rfl⟩ ?_
  refine yee [2] ?_
  refine ht_ret ?_
  obtain rfl:=zi h
  exact pt_ret hio rfl (.cellA _ _ _ _ underlying26 rfl sz26 .nil) rfl rfl
theorem ok_sender_hello (s:T_Send) (r:T_Frame) (h:Sh.sender_hello s=some r):FnOK Tryz.prog 18 [.agg [.v (.int .i64 s.Number), .fl .shr 1 (map (int .u8) s.Data), .v (.bool s.Ready), .v (.int .i64 s.Base), .v (.int .i64 s.Next), .v (.int .i64 s.Wait), .v (.bool s.Over)]] (.agg [.v (.int .i64 r.Kind), .v (.int .i64 r.Number), .v (.int .i64 r.Offset), .v (.int .i64 r.Seq), .fl (.own 5) 1 (map (int .u8) r.Data)]):=by
  unfold Sh.sender_hello at h
  refine yO 9 func18 fun g0 hn hio => ?_
  refine yxx hn 1 ?_
  refine yS (.box 44 [vi 0,vi 0,vi 0,vi 0,vz]) 0 ⟨oA (op_alloc _ _ zr44)⟩ ?_
  refine yee [1,2] ?_
  refine yxx hn 5 ?_
  refine yS (.agg [vi 1,vi s.Number,vi (s.Data.length:Int),vi 0,vz]) 1 ⟨op_build _ _ _ _ [1,1,1,1,1] _ _ underlying44 zr44 (fs44 _ underlying44) (.copy _ (.copy _ (.copy _ Src.nil))) rfl rfl rfl⟩ ?_
  refine yee [2] ?_
  refine ht_ret ?_
  refine pt_sub (fs:=[(2,.box 44 [vi 1,vi s.Number,vi (s.Data.length:Int),vi 0,.fl (.own 5) 1 (map (int .u8) [])])]) (.box _ _ (subs_cons (sub_refl _) (subs_cons (sub_refl _) (subs_cons (sub_refl _) (subs_cons (sub_refl _) (subs_cons (sub_nil 5 1) (subs_nil)))))) rfl .nil) ?_
  obtain rfl:=zi h
  exact pt_ret hio rfl (.cellA _ _ _ _ underlying44 rfl sz44 .nil) rfl rfl
theorem ok_sender_piece (s:T_Send) (i:Int) (r:T_Frame) (h:Sh.sender_piece s i=some r):FnOK Tryz.prog 19 [.agg [.v (.int .i64 s.Number), .fl .shr 1 (map (int .u8) s.Data), .v (.bool s.Ready), .v (.int .i64 s.Base), .v (.int .i64 s.Next), .v (.int .i64 s.Wait), .v (.bool s.Over)], .v (.int .i64 i)] (.agg [.v (.int .i64 r.Kind), .v (.int .i64 r.Number), .v (.int .i64 r.Offset), .v (.int .i64 r.Seq), .fl (.own 5) 1 (map (int .u8) r.Data)]):=by
  unfold Sh.sender_piece at h
  refine yO 27 func19 fun g0 hn hio => ?_
  refine yxx hn 1 ?_
  refine yS (.box 44 [vi 0,vi 0,vi 0,vi 0,vz]) 0 ⟨oA (op_alloc _ _ zr44)⟩ ?_
  refine yee [1,2,4] ?_
  refine ht_seq ?_
  obtain ⟨v1, hv1, h⟩:=zn h
  refine yx hn 1 ?_
  refine ys 1 ⟨lb hv1⟩ ?_
  refine yee [1,2,4,5] ?_
  refine ht_seq ?_
  obtain ⟨v2, hv2, h⟩:=zn h
  obtain ⟨v3, hv3, h⟩:=zn h
  refine yx hn 1 ?_
  refine ys 3 ⟨lb hv2⟩ ?_
  refine yS (vi v3) 1 ⟨(Option.some.inj hv3) ▸ op_min _ _ _ _ rfl rfl⟩ ?_
  refine yee [1,2,4,5,6] ?_
  refine ht_seq ?_
  obtain ⟨v4, hv4, h⟩:=zn h
  obtain ⟨v5, hv5, h⟩:=zn h
  obtain ⟨v6, hv6, h⟩:=zn h
  refine wb [[2],[15,2],[5],[1]] ?_
  refine wN [18] ?_
  refine wo [[2],[20,2],[5],[6]] ⟨lB (rem_ok hv4)⟩ ?_
  refine wN [21,22,23] ?_
  refine wS (fb v5) [] ⟨op_sl _ _ _ v1 v3 _ underlying22 sz5 rfl rfl ⟨_,rfl⟩ ⟨_,rfl⟩ hv5⟩ ?_
  refine wN [24] ?_
  refine wo [] ⟨lk call13 (ok_clone_List_byte _ _ hv6)⟩ ?_
  refine wK [25] [16,17,19] ?_
  refine wt [(26,.agg [vi 3,vi s.Number,vi v1,vi v4,.fl (.own 5) 1 (map (int .u8) v6)])] [] ⟨op_build _ _ _ _ [1,1,1,1,1] _ _ underlying44 zr44 (fs44 _ underlying44) (.copy _ (.copy _ (.copy _ (.copy _ (.take _ _ Src.nil))))) rfl rfl rfl⟩ ?_
  refine wK [26,4] [] ?_
  refine wt [(4,.box 44 [vi 3,vi s.Number,vi v1,vi v4,.fl (.own 5) 1 (map (int .u8) v6)])] [] ⟨op_store_take _ _ _ _ _ _ _ _ sz44 rfl rfl rfl (zl rfl) rfl rfl⟩ ?_
  refine wee hn [4] ?_
  refine ht_ret ?_
  obtain rfl:=zi h
  exact pt_ret hio rfl (.cellA _ _ _ _ underlying44 rfl sz44 .nil) rfl rfl
theorem ok_sender_Tick (s:T_Send) (r:(T_Send×(List T_Frame)×Int)) (h:Sh.sender_Tick s=some r):FnOK Tryz.prog 6 [.agg [.v (.int .i64 s.Number), .fl .shr 1 (map (int .u8) s.Data), .v (.bool s.Ready), .v (.int .i64 s.Base), .v (.int .i64 s.Next), .v (.int .i64 s.Wait), .v (.bool s.Over)]] (.tup [.agg [.v (.int .i64 r.1.Number), .fl (.own 5) 1 (map (int .u8) r.1.Data), .v (.bool r.1.Ready), .v (.int .i64 r.1.Base), .v (.int .i64 r.1.Next), .v (.int .i64 r.1.Wait), .v (.bool r.1.Over)], .fr (.own 44) false 5 (flatten (map T_Frame.ienc r.2.1)), .v (.int .i64 r.2.2)]):=by
  unfold Sh.sender_Tick at h
  refine yO 86 func6 fun g0 hn hio => ?_
  refine yxx hn 1 ?_
  refine yS (.box 26 [vi 0,vz,vb false,vi 0,vi 0,vi 0,vb false]) 2 ⟨oA (op_alloc _ _ zr26)⟩ ?_
  refine yee [1,2] ?_
  refine ht_seq ?_
  refine ht_seq ?_
  obtain ⟨v1, hv1, h⟩:=zn h
  refine yx hn 1 ?_
  refine ys 1 ⟨lk call14 (ok_sender_Check _ _ hv1)⟩ ?_
  refine yee [1,2,5] ?_
  refine yyy hn 2 [1,2,5,12] ?_
  refine ht_cond _ rfl (fun hb2 => ?_) (fun hb2 => ?_)
  ·have h:=cond_t hb2 h
   refine yxx hn 0 ?_
   refine yS (.agg [vi 0,vz,vb false,vi 0,vi 0,vi 0,vb false]) 1 ⟨op_build _ _ _ _ [1,1,1,1,1,1,1] _ _ underlying26 zr26 (fs26 _ underlying26) Src.nil rfl rfl rfl⟩ ?_
   refine yk [13,2] [] ?_
   refine yt (2,.box 26 [vi 0,vz,vb false,vi 0,vi 0,vi 0,vb false]) 2 ⟨op_store_self _ _ _ 13 2 7 sz26 rfl rfl rfl rfl rfl (.eq _ (.eq _ (.eq _ (.eq _ (.eq _ (.eq _ (.eq _ (.nil _)))))))) rfl⟩ ?_
   refine yee [2,3,4] ?_
   refine ht_ret ?_
   refine pt_sub (fs:=[(2,.box 26 [vi 0,.fl (.own 5) 1 (map (int .u8) []),vb false,vi 0,vi 0,vi 0,vb false]),(3,.fr (.own 44) false 5 (flatten (map T_Frame.ienc []))),(4,vi v1)]) (.box _ _ (subs_cons (sub_refl _) (subs_cons (sub_nil 5 1) (subs_cons (sub_refl _) (subs_cons (sub_refl _) (subs_cons (sub_refl _) (subs_cons (sub_refl _) (subs_cons (sub_refl _) (subs_nil)))))))) rfl (.sub _ (sub_nil_fr 44 false 5) rfl (.same _ .nil))) ?_
   refine pt_r_then ?_
   obtain rfl:=zi h
   exact pt_ret hio rfl (.cellA _ _ _ _ underlying26 rfl sz26 (.tmp _ _ (.tmp _ _ .nil))) rfl rfl
  ·have h:=cond_f hb2 h
   refine ht_skip ?_
   refine pt_then (ht_seq ?_)
   obtain ⟨v3, hv3, h⟩:=zn h
   refine yx hn 1 ?_
   refine ys 0 ⟨lk call15 (ok_clone_Send _ _ hv3)⟩ ?_
   refine yk [16,1] [] ?_
   refine yt (1,.box 26 [vi v3.Number,.fl (.own 5) 1 (map (int .u8) v3.Data),vb v3.Ready,vi v3.Base,vi v3.Next,vi v3.Wait,vb v3.Over]) 0 ⟨op_store_take _ _ _ _ _ _ _ _ sz26 rfl rfl rfl (zl rfl) rfl rfl⟩ ?_
   refine yee [1,2] ?_
   refine ht_seq ?_
   obtain ⟨v4, hv4, h⟩:=zn h
   refine yx hn 1 ?_
   refine ys 1 ⟨lk call16 (ok_sender_window _ _ hv4)⟩ ?_
   refine yee [1,2,6] ?_
   refine yyy hn 1 [1,2,6,7] ?_
   refine ht_seq ?_
   refine ht_joinS h (fun ((s39,s40,s41,s42,s43):Bool×Int×Int×Int×(List T_Frame))=>[(1,.box 26 [vi v3.Number,.fl (.own 5) 1 (map (int .u8) v3.Data),vb s39,vi s40,vi s41,vi s42,vb v3.Over]),(2,.box 26 [vi 0,vz,vb false,vi 0,vi 0,vi 0,vb false]),(7,.fr (.own 44) false 5 (flatten (map T_Frame.ienc s43)))]) ?_ ?_
   ·rintro ⟨s39, s40, s41, s42, s43⟩ h
    refine pt_then ?_
    refine yxx hn 0 ?_
    refine yk [1] [] ?_
    refine yt (84,.agg [vi v3.Number,.fl (.own 5) 1 (map (int .u8) v3.Data),vb s39,vi s40,vi s41,vi s42,vb v3.Over]) 0 ⟨op_loadA_take _ _ _ _ underlying26 rfl sz26 rfl rfl⟩ ?_
    refine ym 0 ?_
    refine yk [84,2] [] ?_
    refine yt (2,.box 26 [vi v3.Number,.fl (.own 5) 1 (map (int .u8) v3.Data),vb s39,vi s40,vi s41,vi s42,vb v3.Over]) 0 ⟨op_store_take _ _ _ _ _ _ _ _ sz26 rfl rfl rfl (zl rfl) rfl rfl⟩ ?_
    refine ya 1 ?_
    refine yee [2,3,4] ?_
    refine ht_ret ?_
    obtain rfl:=zi h
    exact pt_ret hio rfl (.cellA _ _ _ _ underlying26 rfl sz26 (.tmp _ _ (.tmp _ _ .nil))) rfl rfl
   ·intro u44 h hl45 hr46
    refine ht_block ?_
    refine yyy hn 3 [1,2,6,7,23] ?_
    refine ht_cond _ rfl (fun hb47 => ?_) (fun hb47 => ?_)
    ·have h:=cond_t hb47 h
     refine ht_skip ?_
     refine pt_inb ?_
     refine pt_pick [0,1,3] (by kernel_rfl) (es':=[(_,_),(_,_),(_,_)]) rfl ?_
     refine pt_sub (fs:=[(1,.box 26 [vi v3.Number,.fl (.own 5) 1 (map (int .u8) v3.Data),vb v3.Ready,vi v3.Base,vi v3.Next,vi v3.Wait,vb v3.Over]),(2,.box 26 [vi 0,vz,vb false,vi 0,vi 0,vi 0,vb false]),(7,.fr (.own 44) false 5 (flatten (map T_Frame.ienc [])))]) (.same _ (.same _ (.sub _ (sub_nil_fr 44 false 5) rfl .nil))) ?_
     exact hl45 _ (zi h).symm
    ·have h:=cond_f hb47 h
     refine ht_seq ?_
     refine ht_joinS h (fun (s48:Bool)=>[(1,.box 26 [vi v3.Number,.fl (.own 5) 1 (map (int .u8) v3.Data),vb v3.Ready,vi v3.Base,vi v3.Next,vi v3.Wait,vb v3.Over]),(2,.box 26 [vi 0,vz,vb false,vi 0,vi 0,vi 0,vb false]),(6,vi v4),(7,vz),(26,vb s48)]) ?_ ?_
     ·rintro s48 h
      refine pt_then ?_
      refine ht_cond _ rfl (fun hb52 => ?_) (fun hb52 => ?_)
      ·have h:=cond_t hb52 h
       refine ht_seq ?_
       refine yyy hn 3 [1,2,7,39] ?_
       refine ht_cond _ rfl (fun hb53 => ?_) (fun hb53 => ?_)
       ·have h:=cond_t hb53 h
        refine ht_seq ?_
        obtain ⟨v13, hv13, h⟩:=zn h
        refine yx hn 2 ?_
        refine ys 2 ⟨lb hv13⟩ ?_
        refine yee [1,2,7] ?_
        refine ht_exit ?_
        refine pt_x_then ?_
        refine pt_x_in ?_
        refine pt_sub (fs:=[(1,.box 26 [vi v3.Number,.fl (.own 5) 1 (map (int .u8) v3.Data),vb v3.Ready,vi v3.Base,vi v3.Next,vi v13,vb v3.Over]),(2,.box 26 [vi 0,vz,vb false,vi 0,vi 0,vi 0,vb false]),(7,.fr (.own 44) false 5 (flatten (map T_Frame.ienc [])))]) (.same _ (.same _ (.sub _ (sub_nil_fr 44 false 5) rfl .nil))) ?_
        exact hl45 _ (zi h).symm
       ·have h:=cond_f hb53 h
        refine ht_skip ?_
        refine pt_then (ht_seq ?_)
        obtain ⟨v14, hv14, h⟩:=zn h
        obtain ⟨v15, hv15, h⟩:=zn h
        refine yx hn 2 ?_
        refine ys 0 ⟨lk call18 (ok_sender_hello _ _ hv14)⟩ ?_
        refine yk [46] [] ?_
        refine yt (47,.fr (.own 44) false 5 (flatten (map T_Frame.ienc [v14]))) 0 ⟨op_build1_fr_take _ _ _ 5 (.agg #[.int .i64 0,.int .i64 0,.int .i64 0,.int .i64 0,.slice none 0 0]) false _ _ underlying37 sz44 zr44 rfl (.cons (.v _) (.cons (.v _) (.cons (.v _) (.cons (.v _) (.cons (.ro _ _ rfl) (.nil)))))) rfl (by decide) (by decide)⟩ ?_
        refine yS (.fr (.own 44) false 5 (flatten (map T_Frame.ienc v15))) 0 ⟨op_app_nil_fr _ _ _ _ el37 rfl rfl (gflat_len T_Frame.ilen _) hv15 (congrArg (fun l=>flatten (map _ l)) (app_nil_eq hv15))⟩ ?_
        refine yw [7] 0 ?_
        refine ya 0 ?_
        refine yee [1,2,7] ?_
        refine yy hn 2 [1,2,7] ?_
        refine pt_inb ?_
        exact hl45 _ (zi h).symm
      ·have h:=cond_f hb52 h
       refine yyy hn 5 [1,2,6,7,50] ?_
       refine ht_cond _ rfl (fun hb54 => ?_) (fun hb54 => ?_)
       ·have h:=cond_t hb54 h
        refine ht_seq ?_
        refine yyy hn 3 [1,2,6,7,8] ?_
        refine ht_sub (fs:=[(1,.box 26 [vi v3.Number,.fl (.own 5) 1 (map (int .u8) v3.Data),vb v3.Ready,vi v3.Base,vi v3.Next,vi v3.Wait,vb v3.Over]),(2,.box 26 [vi 0,vz,vb false,vi 0,vi 0,vi 0,vb false]),(6,vi v4),(7,.fr (.own 44) false 5 (flatten (map T_Frame.ienc []))),(8,vi v3.Next)]) (.same _ (.same _ (.same _ (.sub _ (sub_nil_fr 44 false 5) rfl (.same _ .nil))))) ?_
        refine ht_loopS h (fun ((s59,s60):(List T_Frame)×Int)=>[(1,.box 26 [vi v3.Number,.fl (.own 5) 1 (map (int .u8) v3.Data),vb v3.Ready,vi v3.Base,vi v3.Next,vi v3.Wait,vb v3.Over]),(2,.box 26 [vi 0,vz,vb false,vi 0,vi 0,vi 0,vb false]),(6,vi v4),(7,.fr (.own 44) false 5 (flatten (map T_Frame.ienc s59))),(8,vi s60)]) (fun (s62:(List T_Frame))=>[(1,.box 26 [vi v3.Number,.fl (.own 5) 1 (map (int .u8) v3.Data),vb v3.Ready,vi v3.Base,vi v3.Next,vi v3.Wait,vb v3.Over]),(2,.box 26 [vi 0,vz,vb false,vi 0,vi 0,vi 0,vb false]),(6,vi v4),(7,.fr (.own 44) false 5 (flatten (map T_Frame.ienc s62)))]) ?_ ?_
        ·rintro s62 h
         refine pt_then ?_
         refine yyy hn 3 [1,2,7] ?_
         refine yy hn 2 [1,2,7] ?_
         refine pt_inb ?_
         exact hl45 _ (zi h).symm
        ·rintro u63 hl64 hr65 ⟨s59, s60⟩ rr68 h ho66
         refine ht_seq ?_
         refine yyy hn 3 [1,2,6,7,8,59] ?_
         refine ht_cond _ rfl (fun hb69 => ?_) (fun hb69 => ?_)
         ·have h:=cond_t hb69 h
          refine ht_skip ?_
          refine pt_then (ht_seq ?_)
          refine ht_block ?_
          obtain ⟨v18, hv18, h⟩:=zn h
          obtain ⟨v19, hv19, h⟩:=zn h
          refine yx hn 0 ?_
          refine ym 2 ?_
          refine ys 0 ⟨lk call19 (ok_sender_piece _ _ _ hv18)⟩ ?_
          refine yk [65] [] ?_
          refine yt (66,.fr (.own 44) false 5 (flatten (map T_Frame.ienc [v18]))) 0 ⟨op_build1_fr_take _ _ _ 5 (.agg #[.int .i64 0,.int .i64 0,.int .i64 0,.int .i64 0,.slice none 0 0]) false _ _ underlying37 sz44 zr44 rfl (.cons (.v _) (.cons (.v _) (.cons (.v _) (.cons (.v _) (.cons (.ro _ _ rfl) (.nil)))))) rfl (by decide) (by decide)⟩ ?_
          refine yk [62] [66] ?_
          refine ytt (62,.any) (67,.fr (.own 44) false 5 (flatten (map T_Frame.ienc v19))) 0 ⟨op_app_fr _ _ _ _ _ el37 rfl rfl (gflat_len T_Frame.ilen _) (gflat_len T_Frame.ilen _) hv19 (gflat_app (app_eq hv19)) (by decide) (by decide)⟩ ?_
          refine ya 0 ?_
          refine ye [1,2,6,8,7] ?_
          refine pt_inb ?_
          refine pt_then ?_
          obtain ⟨v20, hv20, h⟩:=zn h
          refine yx hn 1 ?_
          refine ys 0 ⟨lb hv20⟩ ?_
          refine yw [8] 1 ?_
          refine ye [1,2,6,7,8] ?_
          exact pt_next _ (zi h).symm rfl
         ·have h:=cond_f hb69 h
          refine ht_exit ?_
          refine pt_x_then ?_
          refine pt_x_then ?_
          refine pt_x_in ?_
          refine pt_pick [0,1,2,3] (by kernel_rfl) (es':=[(_,_),(_,_),(_,_),(_,_)]) rfl ?_
          exact hl64 _ (ho66 _ (zi h).symm).symm
       ·have h:=cond_f hb54 h
        refine yyy hn 4 [1,2,7,71] ?_
        refine ht_cond _ rfl (fun hb70 => ?_) (fun hb70 => ?_)
        ·have h:=cond_t hb70 h
         refine ht_seq ?_
         obtain ⟨v36, hv36, h⟩:=zn h
         obtain ⟨v37, hv37, h⟩:=zn h
         refine yx hn 2 ?_
         refine ys 0 ⟨lk call18 (ok_sender_hello _ _ hv36)⟩ ?_
         refine yk [77] [] ?_
         refine yt (78,.fr (.own 44) false 5 (flatten (map T_Frame.ienc [v36]))) 0 ⟨op_build1_fr_take _ _ _ 5 (.agg #[.int .i64 0,.int .i64 0,.int .i64 0,.int .i64 0,.slice none 0 0]) false _ _ underlying37 sz44 zr44 rfl (.cons (.v _) (.cons (.v _) (.cons (.v _) (.cons (.v _) (.cons (.ro _ _ rfl) (.nil)))))) rfl (by decide) (by decide)⟩ ?_
         refine yS (.fr (.own 44) false 5 (flatten (map T_Frame.ienc v37))) 0 ⟨op_app_nil_fr _ _ _ _ el37 rfl rfl (gflat_len T_Frame.ilen _) hv37 (congrArg (fun l=>flatten (map _ l)) (app_nil_eq hv37))⟩ ?_
         refine yw [7] 0 ?_
         refine ya 0 ?_
         refine yee [1,2,7] ?_
         refine yy hn 8 [1,2,7] ?_
         refine pt_inb ?_
         exact hl45 _ (zi h).symm
        ·have h:=cond_f hb70 h
         obtain ⟨v38, hv38, h⟩:=zn h
         refine yx hn 2 ?_
         refine ys 2 ⟨lb hv38⟩ ?_
         refine ye [1,2,7] ?_
         refine pt_inb ?_
         refine pt_sub (fs:=[(1,.box 26 [vi v3.Number,.fl (.own 5) 1 (map (int .u8) v3.Data),vb v3.Ready,vi v3.Base,vi v3.Next,vi v38,vb v3.Over]),(2,.box 26 [vi 0,vz,vb false,vi 0,vi 0,vi 0,vb false]),(7,.fr (.own 44) false 5 (flatten (map T_Frame.ienc [])))]) (.same _ (.same _ (.sub _ (sub_nil_fr 44 false 5) rfl .nil))) ?_
         exact hl45 _ (zi h).symm
     ·intro u49 h hl50 hr51
      refine cond_some h (fun hg9_3 h => ?_) (fun hg9_3 h => ?_)
      ·refine wb [[1],[27,1],[28],[29]] ?_
       refine wd hg9_3 [[30],[30],[30],[30],[30],[30],[36]] ?_
       refine we hn [1,2,6,7,26] ?_
       exact hl50 _ (zi h).symm
      ·obtain ⟨v6, hv6, h⟩:=zn h
       refine wb [[1],[27,1],[28],[29]] ?_
       refine wd hg9_3 [[30,1],[30,31,1],[30,1]] ?_
       refine wN [30,33,1] ?_
       refine wo [[30,32,34],[30,35],[36]] ⟨lk call17 (ok_sender_pieces _ _ hv6)⟩ ?_
       refine we hn [1,2,6,7,26] ?_
       exact hl50 _ (zi h).symm
theorem ok_frame_Check (f:T_Frame) (r:Int) (h:Sh.frame_Check f=some r):FnOK Tryz.prog 20 [.agg [.v (.int .i64 f.Kind), .v (.int .i64 f.Number), .v (.int .i64 f.Offset), .v (.int .i64 f.Seq), .fl .shr 1 (map (int .u8) f.Data)]] (.v (.int .i64 r)):=by
  unfold Sh.frame_Check at h
  refine yO 93 func20 fun g0 hn hio => ?_
  refine yyy hn 2 [1] ?_
  refine ht_seq ?_
  refine wb [[1],[9,1],[10],[1],[12,1],[13],[1],[15,1],[16],[17],[11],[14],[18]] ?_
  refine wee hn [1,3,4,5] ?_
  refine ht_seq ?_
  refine ht_joinS h (fun (s1:Bool)=>[(1,.box 44 [vi f.Kind,vi f.Number,vi f.Offset,vi f.Seq,fb f.Data]),(3,vb (f.Offset==0)),(4,vb (f.Seq==0)),(5,vb ((f.Data.length:Int)==0)),(6,vb s1)]) ?_ ?_
  ·rintro s1 h
   refine pt_then (ht_seq ?_)
   refine ht_joinS h (fun (s5:Bool)=>[(1,.box 44 [vi f.Kind,vi f.Number,vi f.Offset,vi f.Seq,fb f.Data]),(3,vb (f.Offset==0)),(4,vb (f.Seq==0)),(5,vb ((f.Data.length:Int)==0)),(6,vb s1),(7,vb s5)]) ?_ ?_
   ·rintro s5 h
    refine pt_then ?_
    refine yyy hn 1 [1,3,4,5,6,7,8] ?_
    refine ht_seq ?_
    refine ht_joinS h (fun (s65:Bool)=>[(1,.box 44 [vi f.Kind,vi f.Number,vi f.Offset,vi f.Seq,fb f.Data]),(8,vb s65)]) ?_ ?_
    ·rintro s65 h
     refine pt_then (ht_seq ?_)
     refine ht_seq ?_
     refine ht_joinS h (fun (s125:Bool)=>[(92,vb s125)]) ?_ ?_
     ·rintro s125 h
      refine pt_then ?_
      refine ht_cond _ rfl (fun hb129 => ?_) (fun hb129 => ?_)
      ·have h:=cond_t hb129 h
       refine yyy hn 1 [2] ?_
       refine ht_ret ?_
       refine pt_r_then ?_
       obtain rfl:=zi h
       exact pt_ret hio rfl (.tmp _ _ .nil) rfl rfl
      ·have h:=cond_f hb129 h
       refine ht_skip ?_
       refine pt_then ?_
       refine yyy hn 1 [2] ?_
       refine ht_ret ?_
       obtain rfl:=zi h
       exact pt_ret hio rfl (.tmp _ _ .nil) rfl rfl
     ·intro u126 h hl127 hr128
      refine cond_some h (fun hg15_2 h => ?_) (fun hg15_2 h => ?_)
      ·refine yx hn 3 ?_
       refine yd hg15_2 9 ?_
       refine ye [92] ?_
       exact hl127 _ (zi h).symm
      ·refine cond_some h (fun hg15_7 h => ?_) (fun hg15_7 h => ?_)
       ·refine yx hn 3 ?_
        refine yd hg15_2 5 ?_
        refine yd hg15_7 4 ?_
        refine ye [92] ?_
        exact hl127 _ (zi h).symm
       ·refine yx hn 3 ?_
        refine yd hg15_2 5 ?_
        refine yd hg15_7 4 ?_
        refine ye [92] ?_
        exact hl127 _ (zi h).symm
    ·intro u66 h hl67 hr68
     refine yyy hn 2 [1,3,4,5,6,7,8,36] ?_
     refine ht_joinS h (fun (s95:Bool)=>[(1,.box 44 [vi f.Kind,vi f.Number,vi f.Offset,vi f.Seq,fb f.Data]),(8,vb s95)]) ?_ ?_
     ·rintro s95 h
      exact hl67 _ (zi h).symm
     ·intro u96 h hl97 hr98
      refine ht_block ?_
      refine ht_seq ?_
      refine ht_joinS h (fun (s100:Bool)=>[(1,.box 44 [vi f.Kind,vi f.Number,vi f.Offset,vi f.Seq,fb f.Data]),(3,vb (f.Offset==0)),(4,vb (f.Seq==0)),(5,vb ((f.Data.length:Int)==0)),(6,vb s1),(7,vb s5),(8,vb false),(36,vi f.Kind),(37,vb s100)]) ?_ ?_
      ·rintro s100 h
       refine pt_then ?_
       refine ht_cond _ rfl (fun hb105 => ?_) (fun hb105 => ?_)
       ·have h:=cond_t hb105 h
        refine ht_joinS h (fun (s106:Bool)=>[(1,.box 44 [vi f.Kind,vi f.Number,vi f.Offset,vi f.Seq,fb f.Data]),(8,vb s106)]) ?_ ?_
        ·rintro s106 h
         refine pt_inb ?_
         exact hl97 _ (zi h).symm
        ·intro u107 h hl108 hr109
         refine cond_some h (fun hg8_1 h => ?_) (fun hg8_1 h => ?_)
         ·refine cond_some h (fun hg8_4 h => ?_) (fun hg8_4 h => ?_)
          ·refine yx hn 2 ?_
           refine yd hg8_1 3 ?_
           refine yd hg8_4 2 ?_
           refine yw [8] 1 ?_
           refine ye [1,8] ?_
           exact hl108 _ (zi h).symm
          ·refine yx hn 2 ?_
           refine yd hg8_1 3 ?_
           refine yd hg8_4 2 ?_
           refine yw [8] 1 ?_
           refine ye [1,8] ?_
           exact hl108 _ (zi h).symm
         ·refine yx hn 2 ?_
          refine yd hg8_1 5 ?_
          refine yw [8] 1 ?_
          refine ye [1,8] ?_
          exact hl108 _ (zi h).symm
       ·have h:=cond_f hb105 h
        refine yyy hn 2 [1,3,4,5,6,7,8,36,47] ?_
        refine ht_cond _ rfl (fun hb110 => ?_) (fun hb110 => ?_)
        ·have h:=cond_t hb110 h
         refine ht_joinS h (fun (s111:Bool)=>[(1,.box 44 [vi f.Kind,vi f.Number,vi f.Offset,vi f.Seq,fb f.Data]),(8,vb s111)]) ?_ ?_
         ·rintro s111 h
          refine pt_inb ?_
          exact hl97 _ (zi h).symm
         ·intro u112 h hl113 hr114
          refine cond_some h (fun hg10_1 h => ?_) (fun hg10_1 h => ?_)
          ·refine cond_some h (fun hg10_4 h => ?_) (fun hg10_4 h => ?_)
           ·refine cond_some h (fun hg10_8 h => ?_) (fun hg10_8 h => ?_)
            ·refine yx hn 2 ?_
             refine yd hg10_1 3 ?_
             refine yd hg10_4 4 ?_
             refine yd hg10_8 5 ?_
             refine yw [8] 1 ?_
             refine ye [1,8] ?_
             exact hl113 _ (zi h).symm
            ·refine yx hn 2 ?_
             refine yd hg10_1 3 ?_
             refine yd hg10_4 4 ?_
             refine yd hg10_8 5 ?_
             refine yw [8] 1 ?_
             refine ye [1,8] ?_
             exact hl113 _ (zi h).symm
           ·refine yx hn 2 ?_
            refine yd hg10_1 3 ?_
            refine yd hg10_4 9 ?_
            refine yw [8] 1 ?_
            refine ye [1,8] ?_
            exact hl113 _ (zi h).symm
          ·refine yx hn 2 ?_
           refine yd hg10_1 12 ?_
           refine yw [8] 1 ?_
           refine ye [1,8] ?_
           exact hl113 _ (zi h).symm
        ·have h:=cond_f hb110 h
         refine yyy hn 2 [1,3,4,5,7,8,36,63] ?_
         refine ht_cond _ rfl (fun hb115 => ?_) (fun hb115 => ?_)
         ·have h:=cond_t hb115 h
          refine ht_joinS h (fun (s116:Bool)=>[(1,.box 44 [vi f.Kind,vi f.Number,vi f.Offset,vi f.Seq,fb f.Data]),(8,vb s116)]) ?_ ?_
          ·rintro s116 h
           refine pt_inb ?_
           exact hl97 _ (zi h).symm
          ·intro u117 h hl118 hr119
           refine cond_some h (fun hg12_1 h => ?_) (fun hg12_1 h => ?_)
           ·refine cond_some h (fun hg12_4 h => ?_) (fun hg12_4 h => ?_)
            ·refine yx hn 2 ?_
             refine yd hg12_1 3 ?_
             refine yd hg12_4 2 ?_
             refine yw [8] 1 ?_
             refine ye [1,8] ?_
             exact hl118 _ (zi h).symm
            ·refine yx hn 2 ?_
             refine yd hg12_1 3 ?_
             refine yd hg12_4 2 ?_
             refine yw [8] 1 ?_
             refine ye [1,8] ?_
             exact hl118 _ (zi h).symm
           ·refine yx hn 2 ?_
            refine yd hg12_1 5 ?_
            refine yw [8] 1 ?_
            refine ye [1,8] ?_
            exact hl118 _ (zi h).symm
         ·have h:=cond_f hb115 h
          refine yyy hn 2 [1,3,4,5,8,72] ?_
          refine ht_cond _ rfl (fun hb120 => ?_) (fun hb120 => ?_)
          ·have h:=cond_t hb120 h
           refine ht_joinS h (fun (s121:Bool)=>[(1,.box 44 [vi f.Kind,vi f.Number,vi f.Offset,vi f.Seq,fb f.Data]),(8,vb s121)]) ?_ ?_
           ·rintro s121 h
            refine pt_inb ?_
            exact hl97 _ (zi h).symm
           ·intro u122 h hl123 hr124
            refine cond_some h (fun hg14_1 h => ?_) (fun hg14_1 h => ?_)
            ·refine cond_some h (fun hg14_4 h => ?_) (fun hg14_4 h => ?_)
             ·refine yx hn 2 ?_
              refine yd hg14_1 3 ?_
              refine yd hg14_4 2 ?_
              refine yw [8] 1 ?_
              refine ye [1,8] ?_
              exact hl123 _ (zi h).symm
             ·refine yx hn 2 ?_
              refine yd hg14_1 3 ?_
              refine yd hg14_4 2 ?_
              refine yw [8] 1 ?_
              refine ye [1,8] ?_
              exact hl123 _ (zi h).symm
            ·refine yx hn 2 ?_
             refine yd hg14_1 5 ?_
             refine yw [8] 1 ?_
             refine ye [1,8] ?_
             exact hl123 _ (zi h).symm
          ·have h:=cond_f hb120 h
           refine ht_skip ?_
           refine pt_inb ?_
           refine pt_pick [0,4] (by kernel_rfl) (es':=[(_,_),(_,_)]) rfl ?_
           exact hl97 _ (zi h).symm
      ·intro u101 h hl102 hr103
       refine yyy hn 2 [1,3,4,5,6,7,8,36,37] ?_
       refine ht_cond _ rfl (fun hb104 => ?_) (fun hb104 => ?_)
       ·have h:=cond_t hb104 h
        refine ht_skip ?_
        exact hl102 _ (zi h).symm
       ·have h:=cond_f hb104 h
        refine yx hn 1 ?_
        refine yw [37] 1 ?_
        refine ye [1,3,4,5,6,7,8,36,37] ?_
        exact hl102 _ (zi h).symm
   ·intro u6 h hl7 hr8
    refine cond_some h (fun hg3_3 h => ?_) (fun hg3_3 h => ?_)
    ·refine yx hn 4 ?_
     refine yd hg3_3 5 ?_
     refine ye [1,3,4,5,6,7] ?_
     exact hl7 _ (zi h).symm
    ·refine yx hn 4 ?_
     refine yd hg3_3 5 ?_
     refine ye [1,3,4,5,6,7] ?_
     exact hl7 _ (zi h).symm
  ·intro u2 h hl3 hr4
   refine cond_some h (fun hg2_3 h => ?_) (fun hg2_3 h => ?_)
   ·refine yx hn 4 ?_
    refine yd hg2_3 5 ?_
    refine ye [1,3,4,5,6] ?_
    exact hl3 _ (zi h).symm
   ·refine yx hn 4 ?_
    refine yd hg2_3 5 ?_
    refine ye [1,3,4,5,6] ?_
    exact hl3 _ (zi h).symm
theorem ok_slices_Index_int_int (s:(List Int)) (v:Int) (r:Int) (h:Sh.slices_Index_int_int s v=some r):FnOK Tryz.prog 46 [.fl .shr 1 (map (int .i64) s), .v (.int .i64 v)] (.v (.int .i64 r)):=by
  unfold Sh.slices_Index_int_int at h
  refine yO 19 func46 fun g0 hn hio => ?_
  refine yyy hn 1 [0,1] ?_
  refine ht_seq ?_
  refine yyy hn 3 [0,1,7,8] ?_
  refine ht_loopS h (fun (s9:Int)=>[(0,fi s),(1,vi v),(7,vi (s.length:Int)),(8,vi s9)]) (fun (():Unit)=>[]) ?_ ?_
  ·rintro ⟨⟩ h
   refine pt_then ?_
   refine yyy hn 1 [4] ?_
   refine ht_ret ?_
   obtain rfl:=zi h
   exact pt_ret hio rfl (.tmp _ _ .nil) rfl rfl
  ·rintro u12 hl13 hr14 s9 rr17 h ho15
   refine yyy hn 1 [0,1,7,8,9] ?_
   refine ht_seq ?_
   refine ht_cond _ rfl (fun hb18 => ?_) (fun hb18 => ?_)
   ·have h:=cond_t hb18 h
    refine ht_skip ?_
    refine pt_then (ht_seq ?_)
    refine ht_block ?_
    refine yyy hn 2 [0,1,7,8,5] ?_
    refine ht_seq ?_
    obtain ⟨v2, hv2, h⟩:=zn h
    obtain ⟨v3, hv3, h⟩:=zn h
    refine yx hn 3 ?_
    refine ys 0 ⟨li hv2⟩ ?_
    refine ys 1 ⟨ll hv3⟩ ?_
    refine yee [0,1,7,8,5,16] ?_
    refine ht_cond _ rfl (fun hb19 => ?_) (fun hb19 => ?_)
    ·have h:=cond_t hb19 h
     refine yyy hn 2 [4] ?_
     refine ht_ret ?_
     refine pt_r_in ?_
     refine pt_r_then ?_
     refine pt_r_then ?_
     refine pt_r_in ?_
     refine pt_r_then ?_
     have h:=hr14 _ (ho15 _ (zi h).symm).symm
     obtain rfl:=zi h
     exact pt_ret hio rfl (.tmp _ _ .nil) rfl rfl
    ·have h:=cond_f hb19 h
     refine ht_skip ?_
     refine pt_inb ?_
     refine pt_then ?_
     obtain ⟨v5, hv5, h⟩:=zn h
     refine yx hn 0 ?_
     refine ys 0 ⟨lb hv5⟩ ?_
     refine yw [8] 1 ?_
     refine ye [0,1,7,8] ?_
     exact pt_next _ (zi h).symm rfl
   ·have h:=cond_f hb18 h
    refine ht_exit ?_
    refine pt_x_then ?_
    refine pt_x_then ?_
    refine pt_x_in ?_
    refine pt_pick [] (by kernel_rfl) (es':=[]) rfl ?_
    exact hl13 _ (ho15 _ (zi h).symm).symm
theorem ok_slices_Contains_int_int (s:(List Int)) (v:Int) (r:Bool) (h:Sh.slices_Contains_int_int s v=some r):FnOK Tryz.prog 28 [.fl .shr 1 (map (int .i64) s), .v (.int .i64 v)] (.v (.bool r)):=by
  unfold Sh.slices_Contains_int_int at h
  refine yO 9 func28 fun g0 hn hio => ?_
  refine yyy hn 1 [0,1] ?_
  refine ht_seq ?_
  obtain ⟨v1, hv1, h⟩:=zn h
  refine yx hn 2 ?_
  refine ys 2 ⟨lk call46 (ok_slices_Index_int_int _ _ _ hv1)⟩ ?_
  refine yee [4] ?_
  refine ht_ret ?_
  obtain rfl:=zi h
  exact pt_ret hio rfl (.tmp _ _ .nil) rfl rfl
theorem ok_taker_answer_sh (t:T_Take) (f:T_Frame) (r:T_taker_result) (h:Sh.taker_answer_sh t f=some r):FnOK Tryz.prog 29 [.agg [.v (.bool t.Open), .v (.int .i64 t.Number), .v (.int .i64 t.Total)], .agg [.v (.int .i64 f.Kind), .v (.int .i64 f.Number), .v (.int .i64 f.Offset), .v (.int .i64 f.Seq), .fl .shr 1 (map (int .u8) f.Data)]] (.agg [.v (.bool r.take.Open), .v (.int .i64 r.take.Number), .v (.int .i64 r.take.Total), .fr .shr true 15 (flatten (map T_Rec.ienc r.recs)), .fr .shr true 5 (flatten (map T_Frame.ienc r.out))]):=by
  unfold Sh.taker_answer_sh at h
  refine yO 9 func29 fun g0 hn hio => ?_
  refine yxx hn 2 ?_
  refine yS (.box 67 [vb false,vi 0,vi 0,vz,vz]) 0 ⟨oA (op_alloc _ _ zr67)⟩ ?_
  refine yee [2,3,4] ?_
  refine yxx hn 2 ?_
  refine yS (.fr (.own 44) true 5 (flatten (map T_Frame.ienc [f]))) 0 ⟨op_build1_fr _ _ _ 5 (.agg #[.int .i64 0,.int .i64 0,.int .i64 0,.int .i64 0,.slice none 0 0]) true _ _ underlying37 sz44 zr44 rfl rfl (.cons (.v _) (.cons (.v _) (.cons (.v _) (.cons (.v _) (.cons (.shr _ _ rfl rfl) (.nil)))))) rfl (by decide) (by decide)⟩ ?_
  refine yk [7] [5] ?_
  refine yt (8,.agg [vb t.Open,vi t.Number,vi t.Total,vz,.fr (.own 44) true 5 (flatten (map T_Frame.ienc [f]))]) 0 ⟨op_build _ _ _ _ [3,1,1] _ _ underlying67 zr67 (fs67 _ underlying67) (.copy _ (.take _ _ Src.nil)) rfl rfl rfl⟩ ?_
  refine yk [8,4] [] ?_
  refine yt (4,.box 67 [vb t.Open,vi t.Number,vi t.Total,vz,.fr (.own 44) true 5 (flatten (map T_Frame.ienc [f]))]) 0 ⟨op_store_take _ _ _ _ _ _ _ _ sz67 rfl rfl rfl (zl rfl) rfl rfl⟩ ?_
  refine yee [4] ?_
  refine ht_ret ?_
  refine pt_sub (fs:=[(4,.box 67 [vb t.Open,vi t.Number,vi t.Total,.fr .shr true 15 (flatten (map T_Rec.ienc [])),.fr (.own 44) true 5 (flatten (map T_Frame.ienc [f]))])]) (.box _ _ (subs_cons (sub_refl _) (subs_cons (sub_refl _) (subs_cons (sub_refl _) (subs_cons (sub_nil_frs true 15) (subs_cons (sub_refl _) (subs_nil)))))) rfl .nil) ?_
  refine pt_frz 0 hio (es':=[(4, .box 67 [.v (.bool t.Open),.v (.int .i64 t.Number),.v (.int .i64 t.Total),.fr .shr true 15 (flatten (map T_Rec.ienc [])),.fr .ro true 5 (flatten (map T_Frame.ienc [f]))])]) rfl ?_
  refine pt_sub (fs:=[(4,.box 67 [vb t.Open,vi t.Number,vi t.Total,.fr .shr true 15 (flatten (map T_Rec.ienc [])),.fr .shr true 5 (flatten (map T_Frame.ienc [f]))])]) (.box _ _ (subs_cons (sub_refl _) (subs_cons (sub_refl _) (subs_cons (sub_refl _) (subs_cons (sub_refl _) (subs_cons (sub_fr_shr _ _ _) (subs_nil)))))) rfl .nil) ?_
  obtain rfl:=zi h
  exact pt_ret hio rfl (.cellA _ _ _ _ underlying67 rfl sz67 .nil) rfl rfl
theorem ok_taker_Far (s:T_Spool) (number:Int) (r:Int) (h:Sh.taker_Far s number=some r):FnOK Tryz.prog 25 [.agg [.fr .shr true 11 (flatten (map T_Item.ienc s.Items)), .v (.int .i64 s.Packs), .fl .shr 1 (map (int .i64) s.Sent), .fl .shr 1 (map (int .u8) s.Part), .v (.int .i64 s.Of), .fl .shr 1 (map (int .i64) s.Done)], .v (.int .i64 number)] (.v (.int .i64 r)):=by
  unfold Sh.taker_Far at h
  refine yO 12 func25 fun g0 hn hio => ?_
  refine yyy hn 2 [1,2] ?_
  refine ht_seq ?_
  refine yyy hn 4 [2,8] ?_
  refine ht_cond _ rfl (fun hb1 => ?_) (fun hb1 => ?_)
  ·have h:=cond_t hb1 h
   refine yyy hn 1 [4] ?_
   refine ht_ret ?_
   refine pt_r_then ?_
   obtain rfl:=zi h
   exact pt_ret hio rfl (.tmp _ _ .nil) rfl rfl
  ·have h:=cond_f hb1 h
   refine ht_skip ?_
   refine pt_then ?_
   refine yyy hn 4 [4] ?_
   refine ht_ret ?_
   obtain rfl:=zi h
   exact pt_ret hio rfl (.tmp _ _ .nil) rfl rfl
theorem ok_taker_hello_sh (off:Int) (f:T_Frame) (r:(T_taker_result×Int)) (h:Sh.taker_hello_sh off f=some r):FnOK Tryz.prog 30 [.v (.int .i64 off), .agg [.v (.int .i64 f.Kind), .v (.int .i64 f.Number), .v (.int .i64 f.Offset), .v (.int .i64 f.Seq), .fl .shr 1 (map (int .u8) f.Data)]] (.tup [.agg [.v (.bool r.1.take.Open), .v (.int .i64 r.1.take.Number), .v (.int .i64 r.1.take.Total), .fr .shr true 15 (flatten (map T_Rec.ienc r.1.recs)), .fr .shr true 5 (flatten (map T_Frame.ienc r.1.out))], .v (.int .i64 r.2)]):=by
  unfold Sh.taker_hello_sh at h
  refine yO 28 func30 fun g0 hn hio => ?_
  refine yxx hn 1 ?_
  refine yS (.box 67 [vb false,vi 0,vi 0,vz,vz]) 1 ⟨oA (op_alloc _ _ zr67)⟩ ?_
  refine yee [0,3,4] ?_
  refine ht_seq ?_
  refine ht_seq ?_
  refine ht_joinS h (fun (s1:Bool)=>[(0,vi off),(3,.box 44 [vi f.Kind,vi f.Number,vi f.Offset,vi f.Seq,fb f.Data]),(4,.box 67 [vb false,vi 0,vi 0,vz,vz]),(15,vb s1)]) ?_ ?_
  ·rintro s1 h
   refine pt_then ?_
   refine ht_cond _ rfl (fun hb5 => ?_) (fun hb5 => ?_)
   ·have h:=cond_t hb5 h
    refine yxx hn 0 ?_
    refine yS (.agg [vb false,vi 0,vi 0,vz,vz]) 0 ⟨op_build _ _ _ _ [3,1,1] _ _ underlying67 zr67 (fs67 _ underlying67) Src.nil rfl rfl rfl⟩ ?_
    refine yk [16,4] [] ?_
    refine yt (4,.box 67 [vb false,vi 0,vi 0,vz,vz]) 1 ⟨op_store_self _ _ _ 16 4 5 sz67 rfl rfl rfl rfl rfl (.eq _ (.eq _ (.eq _ (.eq _ (.eq _ (.nil _)))))) rfl⟩ ?_
    refine yee [4,5] ?_
    refine ht_ret ?_
    refine pt_sub (fs:=[(4,.box 67 [vb false,vi 0,vi 0,.fr .shr true 15 (flatten (map T_Rec.ienc [])),.fr .shr true 5 (flatten (map T_Frame.ienc []))]),(5,vi 11)]) (.box _ _ (subs_cons (sub_refl _) (subs_cons (sub_refl _) (subs_cons (sub_refl _) (subs_cons (sub_nil_frs true 15) (subs_cons (sub_nil_frs true 5) (subs_nil)))))) rfl (.same _ .nil)) ?_
    refine pt_r_then ?_
    obtain rfl:=zi h
    exact pt_ret hio rfl (.cellA _ _ _ _ underlying67 rfl sz67 (.tmp _ _ .nil)) rfl rfl
   ·have h:=cond_f hb5 h
    refine ht_skip ?_
    refine pt_then ?_
    refine yxx hn 4 ?_
    refine yS (.agg [vb true,vi f.Number,vi f.Offset]) 0 ⟨op_build _ _ _ _ [1,1,1] _ _ underlying36 zr36 (fs36 _ underlying36) (.copy _ (.copy _ (.copy _ Src.nil))) rfl rfl rfl⟩ ?_
    refine yS (.box 36 [vb false,vi 0,vi 0]) 1 ⟨oA (op_alloc _ _ zr36)⟩ ?_
    refine yee [0,3,4,6] ?_
    refine ht_seq ?_
    obtain ⟨v6, hv6, h⟩:=zn h
    refine yx hn 4 ?_
    refine yS (.agg [vi 2,vi f.Number,vi off,vi 0,vz]) 0 ⟨op_build _ _ _ _ [1,1,1,1,1] _ _ underlying44 zr44 (fs44 _ underlying44) (.copy _ (.copy _ (.copy _ Src.nil))) rfl rfl rfl⟩ ?_
    refine yk [] [22,26] ?_
    refine yt (27,.agg (T_taker_result.c v6 [])) 2 ⟨op_callS _ _ 29 _ _ rfl call29 rfl rfl ((ok_taker_answer_sh (T_Take.mk true f.Number f.Offset) (T_Frame.mk 2 f.Number off 0 []) _ hv6).args (subs_cons (sub_refl _) (subs_cons (sub_agg (subs_cons (sub_refl _) (subs_cons (sub_refl _) (subs_cons (sub_refl _) (subs_cons (sub_refl _) (subs_cons (sub_nil_shr 1) (subs_nil))))))) (subs_nil)))) rfl⟩ ?_
    refine yee [4,5] ?_
    refine ht_ret ?_
    obtain rfl:=zi h
    exact pt_ret hio rfl (.cellA _ _ _ _ underlying67 rfl sz67 (.tmp _ _ .nil)) rfl rfl
  ·intro u2 h hl3 hr4
   refine cond_some h (fun hg1_3 h => ?_) (fun hg1_3 h => ?_)
   ·refine yx hn 4 ?_
    refine yd hg1_3 5 ?_
    refine ye [0,3,4,15] ?_
    exact hl3 _ (zi h).symm
   ·refine yx hn 4 ?_
    refine yd hg1_3 5 ?_
    refine ye [0,3,4,15] ?_
    exact hl3 _ (zi h).symm
theorem ok_taker_ack (number:Int) (piece:Int) (r:T_Frame) (h:Sh.taker_ack number piece=some r):FnOK Tryz.prog 47 [.v (.int .i64 number), .v (.int .i64 piece)] (.agg [.v (.int .i64 r.Kind), .v (.int .i64 r.Number), .v (.int .i64 r.Offset), .v (.int .i64 r.Seq), .fl (.own 5) 1 (map (int .u8) r.Data)]):=by
  unfold Sh.taker_ack at h
  refine yO 9 func47 fun g0 hn hio => ?_
  refine yxx hn 0 ?_
  refine yS (.box 44 [vi 0,vi 0,vi 0,vi 0,vz]) 0 ⟨oA (op_alloc _ _ zr44)⟩ ?_
  refine yee [0,1,4] ?_
  refine ht_seq ?_
  obtain ⟨v1, hv1, h⟩:=zn h
  refine yx hn 2 ?_
  refine ys 0 ⟨lB (rem_ok hv1)⟩ ?_
  refine yS (.agg [vi 4,vi number,vi 0,vi v1,vz]) 1 ⟨op_build _ _ _ _ [1,1,1,1,1] _ _ underlying44 zr44 (fs44 _ underlying44) (.copy _ (.copy _ (.copy _ Src.nil))) rfl rfl rfl⟩ ?_
  refine yee [4] ?_
  refine ht_ret ?_
  refine pt_sub (fs:=[(4,.box 44 [vi 4,vi number,vi 0,vi v1,.fl (.own 5) 1 (map (int .u8) [])])]) (.box _ _ (subs_cons (sub_refl _) (subs_cons (sub_refl _) (subs_cons (sub_refl _) (subs_cons (sub_refl _) (subs_cons (sub_nil 5 1) (subs_nil)))))) rfl .nil) ?_
  obtain rfl:=zi h
  exact pt_ret hio rfl (.cellA _ _ _ _ underlying44 rfl sz44 .nil) rfl rfl
end Go.Proofs.YthhebpiaknfnhaaGreatDoor
