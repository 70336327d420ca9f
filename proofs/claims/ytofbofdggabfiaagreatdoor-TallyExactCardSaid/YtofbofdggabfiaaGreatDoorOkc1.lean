/-
  The model's runs are what is told in Lean.
-/
import Derived.Test.YtofbofdggabfiaaGreatDoorProg
import Derived.KernelRfl
import Derived.Test.YtofbofdggabfiaaGreatDoorShelf
import Derived.Test.YtofbofdggabfiaaGreatDoorB3
import Derived.Test.YtofbofdggabfiaaGreatDoorC1
import Derived.Test.YtofbofdggabfiaaGreatDoorSh
set_option linter.unusedVariables false
set_option linter.unusedSimpArgs false
set_option maxHeartbeats 1000000
namespace Go.Proofs.YtofbofdggabfiaaGreatDoor
open Go.Abs Go.Abs.Sh Tryz
open List (map flatten)
open Value (int)
def GL (mx:Int):List (Nat×List Value):=[(0, [.int .i64 mx]), (1, (List.map (Value.int .u8) utf8_first)), (2, (List.map (Value.int .u8) utf8_accept))]
theorem gl_mem0 (mx:Int):(0, ([.int .i64 mx]:List Value))∈GL mx := .head _
theorem gl_mem1 (mx:Int):(1, ((List.map (Value.int .u8) utf8_first):List Value))∈GL mx := .tail _ (.head _)
instance iUD22:UD Tryz.prog 22 (.slice 55):=⟨Tryz.underlying22⟩
instance iLiT_Event:LenI T_Event.ienc 9:=⟨T_Event.ilen⟩
theorem sz55:(Tryz.prog.info? 55).map (·.size)=some 9:=by kernel_rfl
theorem sz25:(Tryz.prog.info? 25).map (·.size)=some 1:=by kernel_rfl
theorem sz24:(Tryz.prog.info? 24).map (·.size)=some 3:=by kernel_rfl
theorem sz9:(Tryz.prog.info? 9).map (·.size)=some 1:=by kernel_rfl
instance iSZ55:SZ Tryz.prog 55 9:=⟨by kernel_rfl⟩
instance iFO55_4:FO Tryz.prog 55 4 8:=⟨by kernel_rfl⟩
instance iUD25:UD Tryz.prog 25 (.slice 5):=⟨Tryz.underlying25⟩
instance iFO55_2:FO Tryz.prog 55 2 2:=⟨by kernel_rfl⟩
instance iFO24_1:FO Tryz.prog 24 1 1:=⟨by kernel_rfl⟩
instance iUD9:UD Tryz.prog 9 .string:=⟨Tryz.underlying9⟩
instance iFO24_2:FO Tryz.prog 24 2 2:=⟨by kernel_rfl⟩
instance iFO55_3:FO Tryz.prog 55 3 5:=⟨by kernel_rfl⟩
instance iUD26:UD Tryz.prog 26 (.slice 57):=⟨Tryz.underlying26⟩
instance iLiT_Rec:LenI T_Rec.ienc 15:=⟨T_Rec.ilen⟩
theorem sz57:(Tryz.prog.info? 57).map (·.size)=some 15:=by kernel_rfl
instance iSZ57:SZ Tryz.prog 57 15:=⟨by kernel_rfl⟩
instance iFO57_7:FO Tryz.prog 57 7 14:=⟨by kernel_rfl⟩
theorem sz42:(Tryz.prog.info? 42).map (·.size)=some 1:=by kernel_rfl
instance iFO57_3:FO Tryz.prog 57 3 10:=⟨by kernel_rfl⟩
instance iUD42:UD Tryz.prog 42 (.slice 3):=⟨Tryz.underlying42⟩
theorem sz32:(Tryz.prog.info? 32).map (·.size)=some 8:=by kernel_rfl
theorem zr32:(Tryz.prog.info? 32).bind (·.zero)=some (.agg #[.bool false, .string ByteArray.empty, .string ByteArray.empty, .slice none 0 0, .slice none 0 0, .bool false, .string ByteArray.empty, .int .i64 0]):=by kernel_rfl
instance iUD36:UD Tryz.prog 36 (.slice 32):=⟨Tryz.underlying36⟩
instance iLiT_Mail:LenI T_Mail.ienc 8:=⟨T_Mail.ilen⟩
instance iSZ32:SZ Tryz.prog 32 8:=⟨by kernel_rfl⟩
instance iFO32_2:FO Tryz.prog 32 2 4:=⟨by kernel_rfl⟩
instance iFO32_4:FO Tryz.prog 32 4 6:=⟨by kernel_rfl⟩
instance iFO32_0:FO Tryz.prog 32 0 0:=⟨by kernel_rfl⟩
theorem sz30:(Tryz.prog.info? 30).map (·.size)=some 1:=by kernel_rfl
instance iFO32_1:FO Tryz.prog 32 1 3:=⟨by kernel_rfl⟩
instance iUD30:UD Tryz.prog 30 (.slice 24):=⟨Tryz.underlying30⟩
instance iLT_Path:LenE T_Path.enc 3:=⟨T_Path.len⟩
instance iSZ24:SZ Tryz.prog 24 3:=⟨by kernel_rfl⟩
instance iAG9:AS Tryz.prog 9:=⟨by kernel_rfl⟩
instance iFO57_1:FO Tryz.prog 57 1 1:=⟨by kernel_rfl⟩
instance iAG32:AA Tryz.prog 32 8:=⟨by kernel_rfl⟩
instance iFO29_0:FO Tryz.prog 29 0 0:=⟨by kernel_rfl⟩
instance iFO29_2:FO Tryz.prog 29 2 3:=⟨by kernel_rfl⟩
instance iFO29_3:FO Tryz.prog 29 3 4:=⟨by kernel_rfl⟩
instance iAG29:AA Tryz.prog 29 7:=⟨by kernel_rfl⟩
theorem zr55:(Tryz.prog.info? 55).bind (·.zero)=some (.agg #[.int .i64 0, .int .i64 0, .bool false, .string ByteArray.empty, .string ByteArray.empty, .bool false, .string ByteArray.empty, .string ByteArray.empty, .slice none 0 0]):=by kernel_rfl
instance iAG55:AA Tryz.prog 55 9:=⟨by kernel_rfl⟩
theorem el25:ElemT Tryz.prog 25 5 1 1:=⟨⟨Tryz.t5, .int .u8 0, Tryz.underlying25, by kernel_rfl, by kernel_rfl, by kernel_rfl, by kernel_rfl, by decide, by kernel_rfl⟩⟩
instance iAG25:AS Tryz.prog 25:=⟨by kernel_rfl⟩
theorem el22:ElemT Tryz.prog 22 55 9 120:=⟨⟨Tryz.t55, .agg #[.int .i64 0, .int .i64 0, .bool false, .string ByteArray.empty, .string ByteArray.empty, .bool false, .string ByteArray.empty, .string ByteArray.empty, .slice none 0 0], Tryz.underlying22, by kernel_rfl, by kernel_rfl, by kernel_rfl, by kernel_rfl, by decide, by kernel_rfl⟩⟩
theorem sz3:(Tryz.prog.info? 3).map (·.size)=some 1:=by kernel_rfl
instance iFO55_1:FO Tryz.prog 55 1 1:=⟨by kernel_rfl⟩
instance iAG3:AS Tryz.prog 3:=⟨by kernel_rfl⟩
instance iUD5:UD Tryz.prog 5 (.int .u8):=⟨Tryz.underlying5⟩
instance iFO55_0:FO Tryz.prog 55 0 0:=⟨by kernel_rfl⟩
instance iAG24:AA Tryz.prog 24 3:=⟨by kernel_rfl⟩
theorem zr24:(Tryz.prog.info? 24).bind (·.zero)=some (.agg #[.bool false, .string ByteArray.empty, .string ByteArray.empty]):=by kernel_rfl
theorem zr80:(Tryz.prog.info? 80).bind (·.zero)=some (.slice none 0 0):=by kernel_rfl
theorem sz5:(Tryz.prog.info? 5).map (·.size)=some 1:=by kernel_rfl
theorem zr5:(Tryz.prog.info? 5).bind (·.zero)=some (.int .u8 0):=by kernel_rfl
theorem zr25:(Tryz.prog.info? 25).bind (·.zero)=some (.slice none 0 0):=by kernel_rfl
theorem el80:ElemT Tryz.prog 80 25 1 24:=⟨⟨Tryz.t25, .slice none 0 0, Tryz.underlying80, by kernel_rfl, by kernel_rfl, by kernel_rfl, by kernel_rfl, by decide, by kernel_rfl⟩⟩
theorem sz80:(Tryz.prog.info? 80).map (·.size)=some 1:=by kernel_rfl
instance iAG80:AS Tryz.prog 80:=⟨by kernel_rfl⟩
instance iUD80:UD Tryz.prog 80 (.slice 25):=⟨Tryz.underlying80⟩
instance iLiRow_int_u8:LenI Row_int_u8.ienc 1:=⟨Row_int_u8.ilen⟩
theorem fs24:∀ fs, Tryz.prog.underlying 24=some (.struct fs)→fs.toList.map (fun f=>(Tryz.prog.info? f.type).map (·.size))=([1, 1, 1]:List Nat).map some:=by
  intro fs h
  rw [Tryz.underlying24] at h
  cases h
  kernel_rfl
instance iSZ25:SZ Tryz.prog 25 1:=⟨by kernel_rfl⟩
theorem zr4:(Tryz.prog.info? 4).bind (·.zero)=some (.bool false):=by kernel_rfl
instance iUD21:UD Tryz.prog 21 (.int .i32):=⟨Tryz.underlying21⟩
instance iUD3:UD Tryz.prog 3 (.int .i64):=⟨Tryz.underlying3⟩
instance iAG103:AS Tryz.prog 103:=⟨by kernel_rfl⟩
instance iAG4:AS Tryz.prog 4:=⟨by kernel_rfl⟩
instance iFO24_0:FO Tryz.prog 24 0 0:=⟨by kernel_rfl⟩
theorem zr9:(Tryz.prog.info? 9).bind (·.zero)=some (.string ByteArray.empty):=by kernel_rfl
instance iSZ5:SZ Tryz.prog 5 1:=⟨by kernel_rfl⟩
instance iAG5:AS Tryz.prog 5:=⟨by kernel_rfl⟩
instance iUD105:UD Tryz.prog 105 (.slice 9):=⟨Tryz.underlying105⟩
instance iSZ9:SZ Tryz.prog 9 1:=⟨by kernel_rfl⟩
theorem zr44:(Tryz.prog.info? 44).bind (·.zero)=some (.agg #[.slice none 0 0, .int .i64 0, .slice none 0 0, .slice none 0 0, .int .i64 0, .slice none 0 0]):=by kernel_rfl
theorem fs44:∀ fs, Tryz.prog.underlying 44=some (.struct fs)→fs.toList.map (fun f=>(Tryz.prog.info? f.type).map (·.size))=([1, 1, 1, 1, 1, 1]:List Nat).map some:=by
  intro fs h
  rw [Tryz.underlying44] at h
  cases h
  kernel_rfl
theorem sz44:(Tryz.prog.info? 44).map (·.size)=some 6:=by kernel_rfl
instance iAG44:AA Tryz.prog 44 6:=⟨by kernel_rfl⟩
theorem el42:ElemT Tryz.prog 42 3 1 8:=⟨⟨Tryz.t3, .int .i64 0, Tryz.underlying42, by kernel_rfl, by kernel_rfl, by kernel_rfl, by kernel_rfl, by decide, by kernel_rfl⟩⟩
instance iFO44_1:FO Tryz.prog 44 1 1:=⟨by kernel_rfl⟩
instance iFO44_2:FO Tryz.prog 44 2 2:=⟨by kernel_rfl⟩
instance iAG42:AS Tryz.prog 42:=⟨by kernel_rfl⟩
instance iFO44_3:FO Tryz.prog 44 3 3:=⟨by kernel_rfl⟩
instance iFO44_4:FO Tryz.prog 44 4 4:=⟨by kernel_rfl⟩
instance iFO44_5:FO Tryz.prog 44 5 5:=⟨by kernel_rfl⟩
theorem sz41:(Tryz.prog.info? 41).map (·.size)=some 1:=by kernel_rfl
instance iFO44_0:FO Tryz.prog 44 0 0:=⟨by kernel_rfl⟩
instance iAG41:AS Tryz.prog 41:=⟨by kernel_rfl⟩
instance iUD41:UD Tryz.prog 41 (.slice 74):=⟨Tryz.underlying41⟩
instance iLiT_Item:LenI T_Item.ienc 11:=⟨T_Item.ilen⟩
theorem sz74:(Tryz.prog.info? 74).map (·.size)=some 11:=by kernel_rfl
theorem zr74:(Tryz.prog.info? 74).bind (·.zero)=some (.agg #[.int .i64 0, .bool false, .string ByteArray.empty, .string ByteArray.empty, .slice none 0 0, .slice none 0 0, .bool false, .string ByteArray.empty, .int .i64 0, .int .i64 0, .int .i64 0]):=by kernel_rfl
instance iSZ74:SZ Tryz.prog 74 11:=⟨by kernel_rfl⟩
instance iAG74:AA Tryz.prog 74 11:=⟨by kernel_rfl⟩
theorem el30:ElemT Tryz.prog 30 24 3 40:=⟨⟨Tryz.t24, .agg #[.bool false, .string ByteArray.empty, .string ByteArray.empty], Tryz.underlying30, by kernel_rfl, by kernel_rfl, by kernel_rfl, by kernel_rfl, by decide, by kernel_rfl⟩⟩
instance iAG30:AS Tryz.prog 30:=⟨by kernel_rfl⟩
instance iFO74_1:FO Tryz.prog 74 1 1:=⟨by kernel_rfl⟩
theorem el41:ElemT Tryz.prog 41 74 11 144:=⟨⟨Tryz.t74, .agg #[.int .i64 0, .bool false, .string ByteArray.empty, .string ByteArray.empty, .slice none 0 0, .slice none 0 0, .bool false, .string ByteArray.empty, .int .i64 0, .int .i64 0, .int .i64 0], Tryz.underlying41, by kernel_rfl, by kernel_rfl, by kernel_rfl, by kernel_rfl, by decide, by kernel_rfl⟩⟩
theorem fs57:∀ fs, Tryz.prog.underlying 57=some (.struct fs)→fs.toList.map (fun f=>(Tryz.prog.info? f.type).map (·.size))=([1, 8, 1, 1, 1, 1, 1, 1]:List Nat).map some:=by
  intro fs h
  rw [Tryz.underlying57] at h
  cases h
  kernel_rfl
theorem zr57:(Tryz.prog.info? 57).bind (·.zero)=some (.agg #[.int .i64 0, .bool false, .string ByteArray.empty, .string ByteArray.empty, .slice none 0 0, .slice none 0 0, .bool false, .string ByteArray.empty, .int .i64 0, .int .i64 0, .slice none 0 0, .int .i64 0, .int .i64 0, .int .i64 0, .slice none 0 0]):=by kernel_rfl
instance iFO57_0:FO Tryz.prog 57 0 0:=⟨by kernel_rfl⟩
instance iAG57:AA Tryz.prog 57 15:=⟨by kernel_rfl⟩
instance iFO57_2:FO Tryz.prog 57 2 9:=⟨by kernel_rfl⟩
instance iFO57_4:FO Tryz.prog 57 4 11:=⟨by kernel_rfl⟩
instance iFO32_5:FO Tryz.prog 32 5 7:=⟨by kernel_rfl⟩
theorem fs74:∀ fs, Tryz.prog.underlying 74=some (.struct fs)→fs.toList.map (fun f=>(Tryz.prog.info? f.type).map (·.size))=([1, 8, 1, 1]:List Nat).map some:=by
  intro fs h
  rw [Tryz.underlying74] at h
  cases h
  kernel_rfl
instance iFO57_5:FO Tryz.prog 57 5 12:=⟨by kernel_rfl⟩
instance iSZ3:SZ Tryz.prog 3 1:=⟨by kernel_rfl⟩
instance iFO74_2:FO Tryz.prog 74 2 9:=⟨by kernel_rfl⟩
instance iFO74_3:FO Tryz.prog 74 3 10:=⟨by kernel_rfl⟩
theorem zr3:(Tryz.prog.info? 3).bind (·.zero)=some (.int .i64 0):=by kernel_rfl
instance iFO57_6:FO Tryz.prog 57 6 13:=⟨by kernel_rfl⟩
instance iFO32_3:FO Tryz.prog 32 3 5:=⟨by kernel_rfl⟩
theorem fs71:∀ fs, Tryz.prog.underlying 71=some (.struct fs)→fs.toList.map (fun f=>(Tryz.prog.info? f.type).map (·.size))=([1, 1, 3, 3, 1]:List Nat).map some:=by
  intro fs h
  rw [Tryz.underlying71] at h
  cases h
  kernel_rfl
theorem zr71:(Tryz.prog.info? 71).bind (·.zero)=some (.agg #[.int .i64 0, .int .i64 0, .bool false, .string ByteArray.empty, .string ByteArray.empty, .bool false, .string ByteArray.empty, .string ByteArray.empty, .string ByteArray.empty]):=by kernel_rfl
theorem fs69:∀ fs, Tryz.prog.underlying 69=some (.struct fs)→fs.toList.map (fun f=>(Tryz.prog.info? f.type).map (·.size))=([]:List Nat).map some:=by
  intro fs h
  rw [Tryz.underlying69] at h
  cases h
  kernel_rfl
theorem zr69:(Tryz.prog.info? 69).bind (·.zero)=some (.agg #[]):=by kernel_rfl
theorem sf68:SetF Tryz.prog 68 71 69 [.i .i64, .i .i64, .b, .s, .s, .b, .s, .s, .s] T_tally_event.enc:=setF_of (m:=5) Tryz.underlying68 Tryz.underlying71 (by kernel_rfl) (by kernel_rfl) (by kernel_rfl) (by kernel_rfl) (by kernel_rfl) (by kernel_rfl) (by kernel_rfl) (fun a b h=>by obtain ⟨x1, x2, ⟨x3, x4, x5⟩, ⟨x6, x7, x8⟩, x9⟩:=a; obtain ⟨y10, y11, ⟨y12, y13, y14⟩, ⟨y15, y16, y17⟩, y18⟩:=b; simp only [T_tally_event.enc, List.cons.injEq, Value.int.injEq, Value.bool.injEq, Value.string.injEq, true_and, and_true] at h; simp only [h])
theorem fs55:∀ fs, Tryz.prog.underlying 55=some (.struct fs)→fs.toList.map (fun f=>(Tryz.prog.info? f.type).map (·.size))=([1, 1, 3, 3, 1]:List Nat).map some:=by
  intro fs h
  rw [Tryz.underlying55] at h
  cases h
  kernel_rfl
abbrev T_Rec.c (x:T_Rec) (r:List AV):List AV:=vi x.Kind::vb x.Mail.From.Null::vs x.Mail.From.Local::vs x.Mail.From.Domain :: .fl .shr 3 (flatten (map T_Path.enc x.Mail.To))::fb x.Mail.Body::vb x.Mail.Quiet::vs x.Mail.Helo::vi x.Mail.At::vi x.Id::fi x.Ids::vi x.Origin::vi x.Number::vi x.Offset::fb x.Data::r
abbrev T_Item.c (x:T_Item) (r:List AV):List AV:=vi x.Id::vb x.Mail.From.Null::vs x.Mail.From.Local::vs x.Mail.From.Domain :: .fl .shr 3 (flatten (map T_Path.enc x.Mail.To))::fb x.Mail.Body::vb x.Mail.Quiet::vs x.Mail.Helo::vi x.Mail.At::vi x.State::vi x.Pack::r
abbrev T_Event.c (x:T_Event) (r:List AV):List AV:=vi x.Kind::vi x.Site::vb x.From.Null::vs x.From.Local::vs x.From.Domain::vb x.To.Null::vs x.To.Local::vs x.To.Domain::fb x.Body::r
abbrev T_Mail.c (x:T_Mail) (r:List AV):List AV:=vb x.From.Null::vs x.From.Local::vs x.From.Domain :: .fl .shr 3 (flatten (map T_Path.enc x.To))::fb x.Body::vb x.Quiet::vs x.Helo::vi x.At::r
abbrev T_Config.c (x:T_Config) (r:List AV):List AV:=vs (x.Domains.getD 0 z0)::vs (x.Domains.getD 1 z0)::vi x.Expiry::vs x.User::vs x.Secret::vi x.Log::vb x.Held::r
abbrev T_Spool.c (x:T_Spool) (r:List AV):List AV := .fr .shr true 11 (flatten (map T_Item.ienc x.Items))::vi x.Packs::fi x.Sent::fb x.Part::vi x.Of::fi x.Done::r
theorem ok_wherrylaw26_Heavy (l:(List T_Event)) (r:Bool) (h:Sh.wherrylaw26_Heavy l=some r):FnOK Tryz.prog 4 [.fr .shr true 9 (flatten (map T_Event.ienc l))] (.v (.bool r)):=by
  unfold Sh.wherrylaw26_Heavy at h
  refine yO 56 func4 fun g0 hn hio => ?_
  refine yyy hn 1 [0] ?_
  refine ht_seq ?_
  refine yyy hn 3 [0,7] ?_
  refine ht_cond _ rfl (fun hb1 => ?_) (fun hb1 => ?_)
  ·have h:=cond_t hb1 h
   refine yyy hn 1 [2] ?_
   refine ht_ret ?_
   refine pt_r_then ?_
   obtain rfl:=zi h
   exact pt_ret hio rfl (.tmp _ _ .nil) rfl rfl
  ·have h:=cond_f hb1 h
   refine ht_skip ?_
   refine pt_then ?_
   refine yyy hn 1 [0,3] ?_
   refine ht_seq ?_
   refine yyy hn 1 [0,3,4] ?_
   refine ht_loopS h (fun ((s22,s23):Int×Int)=>[(0,.fr .shr true 9 (flatten (map T_Event.ienc l))),(3,vi s22),(4,vi s23)]) (fun (s25:Int)=>[(3,vi s25)]) ?_ ?_
   ·rintro s25 h
    refine pt_then ?_
    refine yyy hn 3 [2] ?_
    refine ht_ret ?_
    obtain rfl:=zi h
    exact pt_ret hio rfl (.tmp _ _ .nil) rfl rfl
   ·rintro u26 hl27 hr28 ⟨s22, s23⟩ rr31 h ho29
    refine ht_seq ?_
    refine yyy hn 4 [0,3,4,11] ?_
    refine ht_cond _ rfl (fun hb32 => ?_) (fun hb32 => ?_)
    ·have h:=cond_t hb32 h
     refine ht_skip ?_
     refine pt_then (ht_seq ?_)
     refine ht_block ?_
     obtain ⟨v3, hv3, h⟩:=zn h
     obtain ⟨v4, hv4, h⟩:=zn h
     obtain ⟨v5, hv5, h⟩:=zn h
     obtain ⟨v6, hv6, h⟩:=zn h
     obtain ⟨v7, hv7, h⟩:=zn h
     obtain ⟨v8, hv8, h⟩:=zn h
     obtain ⟨v9, hv9, h⟩:=zn h
     obtain ⟨v10, hv10, h⟩:=zn h
     obtain ⟨v11, hv11, h⟩:=zn h
     obtain ⟨v12, hv12, h⟩:=zn h
     obtain ⟨v13, hv13, h⟩:=zn h
     obtain ⟨v14, hv14, h⟩:=zn h
     obtain ⟨v15, hv15, h⟩:=zn h
     obtain ⟨v16, hv16, h⟩:=zn h
     obtain ⟨v17, hv17, h⟩:=zn h
     refine wb [[3],[0],[4]] ?_
     refine wN [15,16] ?_
     refine wo [[17,15]] ⟨lI hv3⟩ ?_
     refine wN [18,15] ?_
     refine wS (fb v4.Body) [[19]] ⟨op_load_fr _ _ _ _ _ _ _ underlying25 rfl rfl rfl (gflat_cell T_Event.ilen hv4 rfl) (.fl _ _ rfl)⟩ ?_
     refine wN [14,20] ?_
     refine wo [[0],[4]] ⟨lb hv5⟩ ?_
     refine wN [22,23] ?_
     refine wo [[24,22],[25,22]] ⟨lI hv6⟩ ?_
     refine wN [26,22] ?_
     refine wS (vs v7.From.Local) [[27]] ⟨op_load_fr _ _ _ _ _ _ _ underlying9 rfl rfl rfl (gflat_cell (j:=3) T_Event.ilen hv7 rfl) (.v _)⟩ ?_
     refine wN [21,28] ?_
     refine wo [[0],[4]] ⟨lb hv8⟩ ?_
     refine wN [30,31] ?_
     refine wo [[32,30],[33,30]] ⟨lI hv9⟩ ?_
     refine wN [34,30] ?_
     refine wS (vs v10.From.Domain) [[35]] ⟨op_load_fr _ _ _ _ _ _ _ underlying9 rfl rfl rfl (gflat_cell (j:=4) T_Event.ilen hv10 rfl) (.v _)⟩ ?_
     refine wN [29,36] ?_
     refine wo [[0],[4]] ⟨lb hv11⟩ ?_
     refine wN [38,39] ?_
     refine wo [[40,38],[41,38]] ⟨lI hv12⟩ ?_
     refine wN [42,38] ?_
     refine wS (vs v13.To.Local) [[43]] ⟨op_load_fr _ _ _ _ _ _ _ underlying9 rfl rfl rfl (gflat_cell (j:=6) T_Event.ilen hv13 rfl) (.v _)⟩ ?_
     refine wN [37,44] ?_
     refine wo [[0],[4]] ⟨lb hv14⟩ ?_
     refine wN [46,47] ?_
     refine wo [[48,46],[49,46]] ⟨lI hv15⟩ ?_
     refine wN [50,46] ?_
     refine wS (vs v16.To.Domain) [[51]] ⟨op_load_fr _ _ _ _ _ _ _ underlying9 rfl rfl rfl (gflat_cell (j:=7) T_Event.ilen hv16 rfl) (.v _)⟩ ?_
     refine wN [45,52] ?_
     refine wo [] ⟨lb hv17⟩ ?_
     refine wK [3] [53] ?_
     refine wt [(3,vi v17)] [] ⟨LOp.drop [_] (op_assign _ _ _ _ rfl rfl)⟩ ?_
     refine we hn [0,4,3] ?_
     refine pt_inb ?_
     refine pt_then ?_
     obtain ⟨v18, hv18, h⟩:=zn h
     refine yx hn 1 ?_
     refine ys 0 ⟨lb hv18⟩ ?_
     refine yw [4] 1 ?_
     refine ye [0,3,4] ?_
     exact pt_next _ (zi h).symm rfl
    ·have h:=cond_f hb32 h
     refine ht_exit ?_
     refine pt_x_then ?_
     refine pt_x_then ?_
     refine pt_x_in ?_
     refine pt_pick [1] (by kernel_rfl) (es':=[(_,_)]) rfl ?_
     exact hl27 _ (ho29 _ (zi h).symm).symm
theorem ok_wherrylaw17_Heavy (l:(List T_Mail)) (r:Bool) (h:Sh.wherrylaw17_Heavy l=some r):FnOK Tryz.prog 6 [.fr .shr true 8 (flatten (map T_Mail.ienc l))] (.v (.bool r)):=by
  unfold Sh.wherrylaw17_Heavy at h
  refine yO 88 func6 fun g0 hn hio => ?_
  refine yyy hn 1 [0] ?_
  refine ht_seq ?_
  refine yyy hn 3 [0,8] ?_
  refine ht_cond _ rfl (fun hb1 => ?_) (fun hb1 => ?_)
  ·have h:=cond_t hb1 h
   refine yyy hn 1 [2] ?_
   refine ht_ret ?_
   refine pt_r_then ?_
   obtain rfl:=zi h
   exact pt_ret hio rfl (.tmp _ _ .nil) rfl rfl
  ·have h:=cond_f hb1 h
   refine ht_skip ?_
   refine pt_then ?_
   refine yyy hn 1 [0,3] ?_
   refine ht_seq ?_
   refine yyy hn 1 [0,3,4] ?_
   refine ht_loopS h (fun ((s66,s67):Int×Int)=>[(0,.fr .shr true 8 (flatten (map T_Mail.ienc l))),(3,vi s66),(4,vi s67)]) (fun (s85:Int)=>[(3,vi s85)]) ?_ ?_
   ·rintro s85 h
    refine pt_then ?_
    refine yyy hn 3 [2] ?_
    refine ht_ret ?_
    obtain rfl:=zi h
    exact pt_ret hio rfl (.tmp _ _ .nil) rfl rfl
   ·rintro u86 hl87 hr88 ⟨s66, s67⟩ rr91 h ho89
    refine ht_seq ?_
    refine yyy hn 4 [0,3,4,12] ?_
    refine ht_cond _ rfl (fun hb92 => ?_) (fun hb92 => ?_)
    ·have h:=cond_t hb92 h
     refine ht_skip ?_
     refine pt_then (ht_seq ?_)
     refine ht_block ?_
     refine ht_seq ?_
     obtain ⟨v3, hv3, h⟩:=zn h
     obtain ⟨v4, hv4, h⟩:=zn h
     obtain ⟨v5, hv5, h⟩:=zn h
     obtain ⟨v6, hv6, h⟩:=zn h
     obtain ⟨v7, hv7, h⟩:=zn h
     obtain ⟨v8, hv8, h⟩:=zn h
     obtain ⟨v9, hv9, h⟩:=zn h
     obtain ⟨v10, hv10, h⟩:=zn h
     obtain ⟨v11, hv11, h⟩:=zn h
     obtain ⟨v12, hv12, h⟩:=zn h
     obtain ⟨v13, hv13, h⟩:=zn h
     obtain ⟨v14, hv14, h⟩:=zn h
     refine wb [[3],[0],[4]] ?_
     refine wN [16,17] ?_
     refine wo [[18,16]] ⟨lI hv3⟩ ?_
     refine wN [19,16] ?_
     refine wS (fb v4.Body) [[20]] ⟨op_load_fr _ _ _ _ _ _ _ underlying25 rfl rfl rfl (gflat_cell T_Mail.ilen hv4 rfl) (.fl _ _ rfl)⟩ ?_
     refine wN [15,21] ?_
     refine wo [[0],[4]] ⟨lb hv5⟩ ?_
     refine wN [23,24] ?_
     refine wo [[25,23]] ⟨lI hv6⟩ ?_
     refine wN [26,23] ?_
     refine wS (vs v7.Helo) [[27]] ⟨op_load_fr _ _ _ _ _ _ _ underlying9 rfl rfl rfl (gflat_cell T_Mail.ilen hv7 rfl) (.v _)⟩ ?_
     refine wN [22,28] ?_
     refine wo [[0],[4]] ⟨lb hv8⟩ ?_
     refine wN [30,31] ?_
     refine wo [[32,30],[33,30]] ⟨lI hv9⟩ ?_
     refine wN [34,30] ?_
     refine wS (vs v10.From.Local) [[35]] ⟨op_load_fr _ _ _ _ _ _ _ underlying9 rfl rfl rfl (gflat_cell (j:=1) T_Mail.ilen hv10 rfl) (.v _)⟩ ?_
     refine wN [29,36] ?_
     refine wo [[0],[4]] ⟨lb hv11⟩ ?_
     refine wN [38,39] ?_
     refine wo [[40,38],[41,38]] ⟨lI hv12⟩ ?_
     refine wN [42,38] ?_
     refine wS (vs v13.From.Domain) [[43]] ⟨op_load_fr _ _ _ _ _ _ _ underlying9 rfl rfl rfl (gflat_cell (j:=2) T_Mail.ilen hv13 rfl) (.v _)⟩ ?_
     refine wN [37,44] ?_
     refine wo [] ⟨lb hv14⟩ ?_
     refine wK [3] [45] ?_
     refine wt [(3,vi v14)] [] ⟨LOp.drop [_] (op_assign _ _ _ _ rfl rfl)⟩ ?_
     refine wee hn [0,4,3] ?_
     refine ht_seq ?_
     refine ht_seq ?_
     obtain ⟨v15, hv15, h⟩:=zn h
     obtain ⟨v16, hv16, h⟩:=zn h
     refine yx hn 2 ?_
     refine ys 1 ⟨lI hv15⟩ ?_
     refine yS (.fl .shr 3 (flatten (map T_Path.enc v16.To))) 2 ⟨op_load_fr _ _ _ _ _ _ _ underlying30 rfl rfl rfl (gflat_cell T_Mail.ilen hv16 rfl) (.fl _ _ rfl)⟩ ?_
     refine yee [0,4,3,52] ?_
     refine ht_cond _ rfl (fun hb93 => ?_) (fun hb93 => ?_)
     ·have h:=cond_t hb93 h
      refine yyy hn 1 [2] ?_
      refine ht_ret ?_
      refine pt_r_then ?_
      refine pt_r_in ?_
      refine pt_r_then ?_
      refine pt_r_then ?_
      refine pt_r_in ?_
      refine pt_r_then ?_
      have h:=hr88 _ (ho89 _ (zi h).symm).symm
      obtain rfl:=zi h
      exact pt_ret hio rfl (.tmp _ _ .nil) rfl rfl
     ·have h:=cond_f hb93 h
      refine ht_skip ?_
      refine pt_then ?_
      refine yyy hn 1 [0,4,3,5] ?_
      refine ht_loopS h (fun ((s98,s99):Int×Int)=>[(0,.fr .shr true 8 (flatten (map T_Mail.ienc l))),(4,vi s67),(3,vi s98),(5,vi s99)]) (fun (s101:Int)=>[(0,.fr .shr true 8 (flatten (map T_Mail.ienc l))),(4,vi s67),(3,vi s101)]) ?_ ?_
      ·rintro s101 h
       refine pt_inb ?_
       refine pt_then ?_
       obtain ⟨v46, hv46, h⟩:=zn h
       refine yx hn 1 ?_
       refine ys 0 ⟨lb hv46⟩ ?_
       refine yw [4] 1 ?_
       refine ye [0,3,4] ?_
       exact pt_next _ (zi h).symm rfl
      ·rintro u102 hl103 hr104 ⟨s98, s99⟩ rr107 h ho105
       refine ht_seq ?_
       refine ht_seq ?_
       obtain ⟨v18, hv18, h⟩:=zn h
       obtain ⟨v19, hv19, h⟩:=zn h
       refine yx hn 3 ?_
       refine ys 1 ⟨lI hv18⟩ ?_
       refine yS (.fl .shr 3 (flatten (map T_Path.enc v19.To))) 2 ⟨op_load_fr _ _ _ _ _ _ _ underlying30 rfl rfl rfl (gflat_cell T_Mail.ilen hv19 rfl) (.fl _ _ rfl)⟩ ?_
       refine yee [0,4,3,5,60] ?_
       refine ht_cond _ rfl (fun hb108 => ?_) (fun hb108 => ?_)
       ·have h:=cond_t hb108 h
        refine ht_skip ?_
        refine pt_then (ht_seq ?_)
        refine ht_block ?_
        obtain ⟨v21, hv21, h⟩:=zn h
        obtain ⟨v22, hv22, h⟩:=zn h
        obtain ⟨v23, hv23, h⟩:=zn h
        obtain ⟨v24, hv24, h⟩:=zn h
        obtain ⟨v25, hv25, h⟩:=zn h
        obtain ⟨v26, hv26, h⟩:=zn h
        obtain ⟨v27, hv27, h⟩:=zn h
        obtain ⟨v28, hv28, h⟩:=zn h
        obtain ⟨v29, hv29, h⟩:=zn h
        obtain ⟨v30, hv30, h⟩:=zn h
        refine wb [[3],[0],[4]] ?_
        refine wN [64,65] ?_
        refine wo [[66,64]] ⟨lI hv21⟩ ?_
        refine wN [67,64] ?_
        refine wS (.fl .shr 3 (flatten (map T_Path.enc v22.To))) [[5]] ⟨op_load_fr _ _ _ _ _ _ _ underlying30 rfl rfl rfl (gflat_cell T_Mail.ilen hv22 rfl) (.fl _ _ rfl)⟩ ?_
        refine wN [68,69] ?_
        refine wo [[70,68]] ⟨lj hv23⟩ ?_
        refine wN [71,68] ?_
        refine wo [[72]] ⟨lL hv24⟩ ?_
        refine wN [63,73] ?_
        refine wo [[0],[4]] ⟨lb hv25⟩ ?_
        refine wN [75,76] ?_
        refine wo [[77,75]] ⟨lI hv26⟩ ?_
        refine wN [78,75] ?_
        refine wS (.fl .shr 3 (flatten (map T_Path.enc v27.To))) [[5]] ⟨op_load_fr _ _ _ _ _ _ _ underlying30 rfl rfl rfl (gflat_cell T_Mail.ilen hv27 rfl) (.fl _ _ rfl)⟩ ?_
        refine wN [79,80] ?_
        refine wo [[81,79]] ⟨lj hv28⟩ ?_
        refine wN [82,79] ?_
        refine wo [[83]] ⟨lL hv29⟩ ?_
        refine wN [74,84] ?_
        refine wo [] ⟨lb hv30⟩ ?_
        refine wK [3] [85] ?_
        refine wt [(3,vi v30)] [] ⟨LOp.drop [_] (op_assign _ _ _ _ rfl rfl)⟩ ?_
        refine we hn [0,4,5,3] ?_
        refine pt_inb ?_
        refine pt_then ?_
        obtain ⟨v31, hv31, h⟩:=zn h
        refine yx hn 1 ?_
        refine ys 0 ⟨lb hv31⟩ ?_
        refine yw [5] 1 ?_
        refine ye [0,4,3,5] ?_
        exact pt_next _ (zi h).symm rfl
       ·have h:=cond_f hb108 h
        refine ht_exit ?_
        refine pt_x_then ?_
        refine pt_x_then ?_
        refine pt_x_in ?_
        refine pt_pick [0,1,2] (by kernel_rfl) (es':=[(_,_),(_,_),(_,_)]) rfl ?_
        exact hl103 _ (ho105 _ (zi h).symm).symm
    ·have h:=cond_f hb92 h
     refine ht_exit ?_
     refine pt_x_then ?_
     refine pt_x_then ?_
     refine pt_x_in ?_
     refine pt_pick [1] (by kernel_rfl) (es':=[(_,_)]) rfl ?_
     exact hl87 _ (ho89 _ (zi h).symm).symm
theorem ok_wherrylaw18_Heavy (l:(List T_Rec)) (r:Bool) (h:Sh.wherrylaw18_Heavy l=some r):FnOK Tryz.prog 5 [.fr .shr true 15 (flatten (map T_Rec.ienc l))] (.v (.bool r)):=by
  unfold Sh.wherrylaw18_Heavy at h
  refine yO 38 func5 fun g0 hn hio => ?_
  refine yyy hn 1 [0] ?_
  refine ht_seq ?_
  refine yyy hn 3 [0,6] ?_
  refine ht_cond _ rfl (fun hb1 => ?_) (fun hb1 => ?_)
  ·have h:=cond_t hb1 h
   refine yyy hn 1 [2] ?_
   refine ht_ret ?_
   refine pt_r_then ?_
   obtain rfl:=zi h
   exact pt_ret hio rfl (.tmp _ _ .nil) rfl rfl
  ·have h:=cond_f hb1 h
   refine ht_skip ?_
   refine pt_then (ht_seq ?_)
   refine yyy hn 1 [0,3] ?_
   refine ht_loopS h (fun (s23:Int)=>[(0,.fr .shr true 15 (flatten (map T_Rec.ienc l))),(3,vi s23)]) (fun (():Unit)=>[]) ?_ ?_
   ·rintro ⟨⟩ h
    refine pt_then ?_
    refine yyy hn 1 [2] ?_
    refine ht_ret ?_
    obtain rfl:=zi h
    exact pt_ret hio rfl (.tmp _ _ .nil) rfl rfl
   ·rintro u30 hl31 hr32 s23 rr35 h ho33
    refine ht_seq ?_
    refine yyy hn 4 [0,3,10] ?_
    refine ht_cond _ rfl (fun hb36 => ?_) (fun hb36 => ?_)
    ·have h:=cond_t hb36 h
     refine ht_skip ?_
     refine pt_then (ht_seq ?_)
     refine ht_block ?_
     refine ht_seq ?_
     refine ht_joinS h (fun (s37:Bool)=>[(0,.fr .shr true 15 (flatten (map T_Rec.ienc l))),(3,vi s23),(37,vb s37)]) ?_ ?_
     ·rintro s37 h
      refine pt_then ?_
      refine ht_cond _ rfl (fun hb41 => ?_) (fun hb41 => ?_)
      ·have h:=cond_t hb41 h
       refine yyy hn 1 [2] ?_
       refine ht_ret ?_
       refine pt_r_in ?_
       refine pt_r_then ?_
       refine pt_r_then ?_
       refine pt_r_in ?_
       refine pt_r_then ?_
       have h:=hr32 _ (ho33 _ (zi h).symm).symm
       obtain rfl:=zi h
       exact pt_ret hio rfl (.tmp _ _ .nil) rfl rfl
      ·have h:=cond_f hb41 h
       refine ht_skip ?_
       refine pt_inb ?_
       refine pt_then ?_
       obtain ⟨v15, hv15, h⟩:=zn h
       refine yx hn 1 ?_
       refine ys 0 ⟨lb hv15⟩ ?_
       refine yw [3] 1 ?_
       refine ye [0,3] ?_
       exact pt_next _ (zi h).symm rfl
     ·intro u38 h hl39 hr40
      obtain ⟨v3, hv3, h⟩:=zn h
      obtain ⟨v4, hv4, h⟩:=zn h
      refine cond_some h (fun hg6_7 h => ?_) (fun hg6_7 h => ?_)
      ·refine yx hn 2 ?_
       refine ys 1 ⟨lI hv3⟩ ?_
       refine yS (fb v4.Data) 3 ⟨op_load_fr _ _ _ _ _ _ _ underlying25 rfl rfl rfl (gflat_cell T_Rec.ilen hv4 rfl) (.fl _ _ rfl)⟩ ?_
       refine yd hg6_7 17 ?_
       refine ye [0,3,37] ?_
       exact hl39 _ (zi h).symm
      ·obtain ⟨v5, hv5, h⟩:=zn h
       obtain ⟨v6, hv6, h⟩:=zn h
       refine cond_some h (fun hg6_16 h => ?_) (fun hg6_16 h => ?_)
       ·refine yx hn 2 ?_
        refine ys 1 ⟨lI hv3⟩ ?_
        refine yS (fb v4.Data) 3 ⟨op_load_fr _ _ _ _ _ _ _ underlying25 rfl rfl rfl (gflat_cell T_Rec.ilen hv4 rfl) (.fl _ _ rfl)⟩ ?_
        refine yd hg6_7 2 ?_
        refine ys 1 ⟨lI hv5⟩ ?_
        refine yS (fi v6.Ids) 4 ⟨op_load_fr _ _ _ _ _ _ _ underlying42 rfl rfl rfl (gflat_cell T_Rec.ilen hv6 rfl) (.fl _ _ rfl)⟩ ?_
        refine yd hg6_16 8 ?_
        refine ye [0,3,37] ?_
        exact hl39 _ (zi h).symm
       ·obtain ⟨v7, hv7, h⟩:=zn h
        obtain ⟨v8, hv8, h⟩:=zn h
        obtain ⟨v9, hv9, h⟩:=zn h
        refine yx hn 2 ?_
        refine ys 1 ⟨lI hv3⟩ ?_
        refine yS (fb v4.Data) 3 ⟨op_load_fr _ _ _ _ _ _ _ underlying25 rfl rfl rfl (gflat_cell T_Rec.ilen hv4 rfl) (.fl _ _ rfl)⟩ ?_
        refine yd hg6_7 2 ?_
        refine ys 1 ⟨lI hv5⟩ ?_
        refine yS (fi v6.Ids) 4 ⟨op_load_fr _ _ _ _ _ _ _ underlying42 rfl rfl rfl (gflat_cell T_Rec.ilen hv6 rfl) (.fl _ _ rfl)⟩ ?_
        refine yd hg6_16 2 ?_
        refine ys 1 ⟨lI hv7⟩ ?_
        refine yS (.agg (T_Mail.c v8.Mail [])) 0 ⟨op_loadA_fr _ _ _ _ _ _ _ _ underlying32 rfl sz32 rfl rfl (gflat_seg T_Rec.ilen hv8 (zl rfl) rfl) (.cons (.v _) (.cons (.v _) (.cons (.v _) (.cons (.fl _ _ rfl) (.cons (.fl _ _ rfl) (.cons (.v _) (.cons (.v _) (.cons (.v _) (.nil))))))))) rfl (by decide)⟩ ?_
        refine yS (.fr (.own 32) true 8 (flatten (map T_Mail.ienc [(T_Mail.mk (T_Path.mk v8.Mail.From.Null v8.Mail.From.Local v8.Mail.From.Domain) v8.Mail.To v8.Mail.Body v8.Mail.Quiet v8.Mail.Helo v8.Mail.At)]))) 0 ⟨op_build1_fr _ _ _ 8 (.agg #[.bool false,.string ByteArray.empty,.string ByteArray.empty,.slice none 0 0,.slice none 0 0,.bool false,.string ByteArray.empty,.int .i64 0]) true _ _ underlying36 sz32 zr32 rfl rfl (.cons (.v _) (.cons (.v _) (.cons (.v _) (.cons (.shr _ _ rfl rfl) (.cons (.shr _ _ rfl rfl) (.cons (.v _) (.cons (.v _) (.cons (.v _) (.nil))))))))) rfl (by decide) (by decide)⟩ ?_
        refine ys 1 ⟨lk call6 (ok_wherrylaw17_Heavy _ _ hv9)⟩ ?_
        refine ye [0,3,37] ?_
        exact hl39 _ (zi h).symm
    ·have h:=cond_f hb36 h
     refine ht_exit ?_
     refine pt_x_then ?_
     refine pt_x_then ?_
     refine pt_x_in ?_
     refine pt_pick [] (by kernel_rfl) (es':=[]) rfl ?_
     exact hl31 _ (ho33 _ (zi h).symm).symm
theorem ok_wherrylaw23_HeavyConfig (c:T_Config) (r:Bool) (h:Sh.wherrylaw23_HeavyConfig c=some r):FnOK Tryz.prog 7 [.agg [.v (.string ((c.Domains.getD 0 (⟨#[]⟩:ByteArray)))), .v (.string ((c.Domains.getD 1 (⟨#[]⟩:ByteArray)))), .v (.int .i64 c.Expiry), .v (.string c.User), .v (.string c.Secret), .v (.int .i64 c.Log), .v (.bool c.Held)]] (.v (.bool r)):=by
  unfold Sh.wherrylaw23_HeavyConfig at h
  refine yO 21 func7 fun g0 hn hio => ?_
  refine yyy hn 2 [1] ?_
  refine ht_seq ?_
  obtain ⟨v1, hv1, h⟩:=zn h
  obtain ⟨v2, hv2, h⟩:=zn h
  obtain ⟨v3, hv3, h⟩:=zn h
  refine yx hn 1 ?_
  refine yS (.ptr 1 0) 3 ⟨op_indexAddr_a _ _ _ _ 2 1 0 0 1 underlying27 sz9 rfl rfl (by decide) (by decide)⟩ ?_
  refine yS (.ptr 1 1) 2 ⟨op_indexAddr_a _ _ _ _ 2 1 0 1 1 underlying27 sz9 rfl rfl (by decide) (by decide)⟩ ?_
  refine ys 3 ⟨lb hv1⟩ ?_
  refine ys 3 ⟨lb hv2⟩ ?_
  refine ys 2 ⟨lb hv3⟩ ?_
  refine yee [2] ?_
  refine ht_ret ?_
  obtain rfl:=zi h
  exact pt_ret hio rfl (.tmp _ _ .nil) rfl rfl
theorem ok_wherrykeep_Twin (l:(List Int)) (r:(List Int)) (h:Sh.wherrykeep_Twin l=some r):FnOK Tryz.prog 23 [.fl .shr 1 (map (int .u8) l)] (.fl (.own 5) 1 (map (int .u8) r)):=by
  unfold Sh.wherrykeep_Twin at h
  refine yO 7 func23 fun g0 hn hio => ?_
  refine yyy hn 1 [0] ?_
  refine yyy hn 1 [0,3] ?_
  refine ht_seq ?_
  obtain ⟨v1, hv1, h⟩:=zn h
  refine yx hn 2 ?_
  refine yS (.fl (.own 5) 1 (map (int .u8) v1)) 0 ⟨op_app_nil _ _ _ _ el25 rfl rfl (map_len _) hv1 (congrArg (map _) (app_nil_eq hv1))⟩ ?_
  refine ya 0 ?_
  refine yee [2] ?_
  refine ht_ret ?_
  obtain rfl:=zi h
  exact pt_ret hio rfl (.tmp _ _ .nil) rfl rfl
theorem ok_wherrykeep_TwinEvents (l:(List T_Event)) (r:(List T_Event)) (h:Sh.wherrykeep_TwinEvents l=some r):FnOK Tryz.prog 8 [.fr .shr true 9 (flatten (map T_Event.ienc l))] (.fr (.own 55) false 9 (flatten (map T_Event.ienc r))):=by
  unfold Sh.wherrykeep_TwinEvents at h
  refine yO 25 func8 fun g0 hn hio => ?_
  refine yyy hn 1 [0] ?_
  refine yyy hn 1 [0,3] ?_
  refine ht_seq ?_
  refine yyy hn 1 [0,3,4] ?_
  refine ht_sub (fs:=[(0,.fr .shr true 9 (flatten (map T_Event.ienc l))),(3,.fr (.own 55) false 9 (flatten (map T_Event.ienc []))),(4,vi 0)]) (.same _ (.sub _ (sub_nil_fr 55 false 9) rfl (.same _ .nil))) ?_
  refine ht_loopS h (fun ((s10,s11):(List T_Event)×Int)=>[(0,.fr .shr true 9 (flatten (map T_Event.ienc l))),(3,.fr (.own 55) false 9 (flatten (map T_Event.ienc s10))),(4,vi s11)]) (fun (s13:(List T_Event))=>[(3,.fr (.own 55) false 9 (flatten (map T_Event.ienc s13)))]) ?_ ?_
  ·rintro s13 h
   refine pt_then ?_
   refine yxx hn 0 ?_
   refine ym 0 ?_
   refine ya 0 ?_
   refine yee [2] ?_
   refine ht_ret ?_
   obtain rfl:=zi h
   exact pt_ret hio rfl (.tmp _ _ .nil) rfl rfl
  ·rintro u14 hl15 hr16 ⟨s10, s11⟩ rr19 h ho17
   refine ht_seq ?_
   refine yyy hn 4 [0,3,4,9] ?_
   refine ht_cond _ rfl (fun hb20 => ?_) (fun hb20 => ?_)
   ·have h:=cond_t hb20 h
    refine ht_skip ?_
    refine pt_then (ht_seq ?_)
    refine ht_block ?_
    refine ht_seq ?_
    obtain ⟨v2, hv2, h⟩:=zn h
    obtain ⟨v3, hv3, h⟩:=zn h
    refine yx hn 2 ?_
    refine ys 0 ⟨lI hv2⟩ ?_
    refine yS (.agg (T_Event.c v3 [])) 0 ⟨op_loadA_fr _ _ _ _ _ _ _ _ underlying55 rfl sz55 rfl rfl (gflat_get T_Event.ilen hv3) (.cons (.v _) (.cons (.v _) (.cons (.v _) (.cons (.v _) (.cons (.v _) (.cons (.v _) (.cons (.v _) (.cons (.v _) (.cons (.fl _ _ rfl) (.nil)))))))))) rfl (by decide)⟩ ?_
    refine yS (.box 55 [vi 0,vi 0,vb false,vs z0,vs z0,vb false,vs z0,vs z0,vz]) 1 ⟨oA (op_alloc _ _ zr55)⟩ ?_
    refine yee [0,3,4,5] ?_
    refine ht_seq ?_
    obtain ⟨v4, hv4, h⟩:=zn h
    refine yx hn 2 ?_
    refine ys 1 ⟨lk call23 (ok_wherrykeep_Twin _ _ hv4)⟩ ?_
    refine yk [18,5] [19] ?_
    refine yt (5,.box 55 [vi v3.Kind,vi v3.Site,vb v3.From.Null,vs v3.From.Local,vs v3.From.Domain,vb v3.To.Null,vs v3.To.Local,vs v3.To.Domain,.fl (.own 5) 1 (map (int .u8) v4)]) 0 ⟨op_store_take _ _ _ _ _ _ _ _ sz25 rfl rfl rfl (zl rfl) rfl rfl⟩ ?_
    refine yee [0,3,4,5] ?_
    obtain ⟨v5, hv5, h⟩:=zn h
    refine yx hn 0 ?_
    refine ym 0 ?_
    refine yk [5] [] ?_
    refine yt (21,.agg [vi v3.Kind,vi v3.Site,vb v3.From.Null,vs v3.From.Local,vs v3.From.Domain,vb v3.To.Null,vs v3.To.Local,vs v3.To.Domain,.fl (.own 5) 1 (map (int .u8) v4)]) 0 ⟨op_loadA_take _ _ _ _ underlying55 rfl sz55 rfl rfl⟩ ?_
    refine yk [21] [] ?_
    refine yt (22,.fr (.own 55) false 9 (flatten (map T_Event.ienc [(T_Event.mk v3.Kind v3.Site (T_Path.mk v3.From.Null v3.From.Local v3.From.Domain) (T_Path.mk v3.To.Null v3.To.Local v3.To.Domain) v4)]))) 0 ⟨op_build1_fr_take _ _ _ 9 (.agg #[.int .i64 0,.int .i64 0,.bool false,.string ByteArray.empty,.string ByteArray.empty,.bool false,.string ByteArray.empty,.string ByteArray.empty,.slice none 0 0]) false _ _ underlying22 sz55 zr55 rfl (.cons (.v _) (.cons (.v _) (.cons (.v _) (.cons (.v _) (.cons (.v _) (.cons (.v _) (.cons (.v _) (.cons (.v _) (.cons (.ro _ _ rfl) (.nil)))))))))) rfl (by decide) (by decide)⟩ ?_
    refine yk [20] [22] ?_
    refine ytt (20,.any) (23,.fr (.own 55) false 9 (flatten (map T_Event.ienc v5))) 0 ⟨op_app_fr _ _ _ _ _ el22 rfl rfl (gflat_len T_Event.ilen _) (gflat_len T_Event.ilen _) hv5 (gflat_app (app_eq hv5)) (by decide) (by decide)⟩ ?_
    refine ya 0 ?_
    refine ye [0,4,3] ?_
    refine pt_inb ?_
    refine pt_then ?_
    obtain ⟨v6, hv6, h⟩:=zn h
    refine yx hn 1 ?_
    refine ys 0 ⟨lb hv6⟩ ?_
    refine yw [4] 1 ?_
    refine ye [0,3,4] ?_
    exact pt_next _ (zi h).symm rfl
   ·have h:=cond_f hb20 h
    refine ht_exit ?_
    refine pt_x_then ?_
    refine pt_x_then ?_
    refine pt_x_in ?_
    refine pt_pick [1] (by kernel_rfl) (es':=[(_,_)]) rfl ?_
    exact hl15 _ (ho17 _ (zi h).symm).symm
theorem ok_bytes_Equal (a:(List Int)) (b:(List Int)) (r:Bool) (h:Sh.bytes_Equal a b=some r):FnOK Tryz.prog 24 [.fl .shr 1 (map (int .u8) a), .fl .shr 1 (map (int .u8) b)] (.v (.bool r)):=by
  unfold Sh.bytes_Equal at h
  refine yO 10 func24 fun g0 hn hio => ?_
  refine yyy hn 1 [0,1] ?_
  refine ht_seq ?_
  obtain ⟨v1, hv1, h⟩:=zn h
  obtain ⟨v2, hv2, h⟩:=zn h
  refine yx hn 1 ?_
  refine ys 1 ⟨lS hv1⟩ ?_
  refine ys 2 ⟨lS hv2⟩ ?_
  refine yee [4] ?_
  refine ht_ret ?_
  obtain rfl:=zi h
  exact pt_ret hio rfl (.tmp _ _ .nil) rfl rfl
theorem ok_dots_lines (b:(List Int)) (r:(List Int)) (h:Sh.dots_lines b=some r):FnOK Tryz.prog 67 [.fl .shr 1 (map (int .u8) b)] (.cloB 80 [.box 25 [.fl .shr 1 (map (int .u8) r)]]):=by
  unfold Sh.dots_lines at h
  refine yO 4 func67 fun g0 hn hio => ?_
  refine yyy hn 2 [1] ?_
  refine yxx hn 0 ?_
  refine yk [1] [] ?_
  refine yt (3,.cloB 80 [.box 25 [fb b]]) 0 ⟨op_mkclo _ _ [1] [.box 25 [fb b]] rfl rfl rfl⟩ ?_
  refine ya 0 ?_
  refine yee [2] ?_
  refine ht_ret ?_
  obtain rfl:=zi h
  exact pt_ret hio rfl (.tmp _ _ .nil) rfl rfl
theorem ok_bytes_Index (mx:Int) (s sep:List Int) (r:Int) (h:Sh.bytes_Index s sep=some r):FnG Tryz.prog (GL mx) 94 [.fl .shr 1 (map (int .u8) s), .fl .shr 1 (map (int .u8) sep)] (.v (.int .i64 r)) :=
  lib_bytes_Index (gl_mem0 mx) Tryz.bytes_Index_at Tryz.bytes_Index_longer s sep r h
theorem ok_bytes_Cut_sh (mx:Int) (s:(List Int)) (sep:(List Int)) (r:((List Int)×(List Int)×Bool)) (h:Sh.bytes_Cut_sh s sep=some r):FnG Tryz.prog (GL mx) 81 [.fl .shr 1 (map (int .u8) s), .fl .shr 1 (map (int .u8) sep)] (.tup [.fl .shr 1 (map (int .u8) r.1), .fl .shr 1 (map (int .u8) r.2.1), .v (.bool r.2.2)]):=by
  unfold Sh.bytes_Cut_sh at h
  refine yG 23 func81 fun g0 hn hio => ?_
  refine yyy hn 3 [0,1,23] ?_
  refine ht_seq ?_
  refine ht_seq ?_
  obtain ⟨v1, hv1, h⟩:=zn h
  refine yx hn 2 ?_
  refine ys 1 ⟨lg call94 (ok_bytes_Index _ _ _ _ hv1) 23⟩ ?_
  refine yee [0,1,23,7] ?_
  refine yyy hn 2 [0,1,23,7,12] ?_
  refine ht_cond _ rfl (fun hb2 => ?_) (fun hb2 => ?_)
  ·have h:=cond_t hb2 h
   refine ht_seq ?_
   obtain ⟨v3, hv3, h⟩:=zn h
   obtain ⟨v4, hv4, h⟩:=zn h
   obtain ⟨v5, hv5, h⟩:=zn h
   refine wb [[0],[7]] ?_
   refine wN [13,14] ?_
   refine wS (fb v3) [[0],[7],[1],[18]] ⟨op_sl _ _ _ 0 v1 _ underlying25 sz5 rfl rfl rfl ⟨_,rfl⟩ hv3⟩ ?_
   refine wN [17,19] ?_
   refine wo [] ⟨lb hv4⟩ ?_
   refine wN [16,20] ?_
   refine wS (fb v5) [[15],[21],[]] ⟨op_sl _ _ _ v4 (s.length:Int) _ underlying25 sz5 rfl rfl ⟨_,rfl⟩ rfl hv5⟩ ?_
   refine wee hn [23,4,5,6] ?_
   refine ht_ret ?_
   refine pt_pick [1,2,3] (by kernel_rfl) (es':=[(_,_),(_,_),(_,_)]) rfl ?_
   refine pt_r_then ?_
   obtain rfl:=zi h
   exact pt_ret hio rfl (.tmp _ _ (.tmp _ _ (.tmp _ _ .nil))) rfl rfl
  ·have h:=cond_f hb2 h
   refine ht_skip ?_
   refine pt_then ?_
   refine yyy hn 4 [23,4,5,6] ?_
   refine ht_ret ?_
   refine pt_pick [1,2,3] (by kernel_rfl) (es':=[(_,_),(_,_),(_,_)]) rfl ?_
   refine pt_sub (fs:=[(4,fb s),(5,fb []),(6,vb false)]) (.same _ (.sub _ (sub_nil_shr 1) rfl (.same _ .nil))) ?_
   obtain rfl:=zi h
   exact pt_ret hio rfl (.tmp _ _ (.tmp _ _ (.tmp _ _ .nil))) rfl rfl
theorem ok_dots_lines_1 (mx:Int) (l:Nat) {S:Type} (J:S→InvT) (Y:(List Int)→S→Option (S×Bool)) (hY:YieldOK Tryz.prog l (fun x => .fl .shr 1 (map (int .u8) x)) Y J) (c0:(List Int)) (st r:S) (h:Sh.dots_lines_1 Y c0 st=some r):FnI Tryz.prog (GL mx) 80 l [.box 25 [.fl .shr 1 (map (int .u8) c0)]] (J st) (J r):=by
  unfold Sh.dots_lines_1 at h
  refine yI 23 func80 fun g0 hn hio => ?_
  refine ht_loopS h (fun ((s17,s18):(List Int)×S)=>[(0,.v (.func (.yield l) #[] #[])),(1,.box 25 [fb s17]),(23,.glob (GL mx)),(24,.inv (J s18))]) (fun (():Unit)=>[]) ?_ ?_
  ·rintro ⟨⟩ h
   cases h
  ·rintro u25 hl26 hr27 ⟨s17, s18⟩ rr30 h ho28
   refine ht_block ?_
   refine ht_seq ?_
   obtain ⟨v1, hv1, h⟩:=zn h
   refine yx hn 1 ?_
   refine yS (.fl (.own 5) 1 (map (int .u8) [13,10])) 0 ⟨op_buildSlice _ _ 1 (.int .u8 0) (map (int .u8) [13,10]) [(0,.int .u8 13),(1,.int .u8 10)] underlying25 sz5 zr5 (fun _ V w o a hv hes=>by simp only [List.map_toArray,List.map_cons,List.map_nil]; try rfl) (litfill (by simp [Instr.fill,Value.cells]; rfl) (by simp [List.range,List.range.loop] <;> rfl)) (by simp [Value.oneCell']) rfl (by decide) (by decide) (by decide)⟩ ?_
   refine yk [8] [] ?_
   refine yt (9,.fl .ro 1 (map (int .u8) [13,10])) 0 ⟨op_conv_mark _ _ _ underlying25 underlying5 (by intro h; cases h)⟩ ?_
   refine yk [] [7,9,23] ?_
   refine yt (10,.tup [fb v1.1,fb v1.2.1,vb v1.2.2]) 0 ⟨op_callSG _ _ 23 81 _ _ rfl call81 rfl rfl rfl (fun _ h=>h) (ok_bytes_Cut_sh mx s17 [13,10] _ hv1) rfl⟩ ?_
   refine ym 6 ?_
   refine yee [0,1,23,24,3,4,5] ?_
   refine ht_seq ?_
   refine ht_seq ?_
   refine ht_joinS h (fun ((s31,s32):S×Bool)=>[(0,.v (.func (.yield l) #[] #[])),(1,.box 25 [fb s17]),(23,.glob (GL mx)),(24,.inv (J s31)),(4,fb v1.2.1),(21,vb s32)]) ?_ ?_
   ·rintro ⟨s31, s32⟩ h
    refine pt_then ?_
    refine ht_cond _ rfl (fun hb36 => ?_) (fun hb36 => ?_)
    ·have h:=cond_t hb36 h
     refine ht_ret ?_
     refine pt_pick [3] (by kernel_rfl) (es':=[(24,.inv (J s31))]) rfl ?_
     refine pt_r_then ?_
     refine pt_r_in ?_
     refine pt_r_then ?_
     refine pt_r_in ?_
     have h:=hr27 _ (ho28 _ (zi h).symm).symm
     obtain rfl:=zi h
     exact pt_retI hio rfl rfl rfl
    ·have h:=cond_f hb36 h
     refine ht_skip ?_
     refine pt_then ?_
     refine yy hn 2 [0,1,23,24] ?_
     refine pt_inb ?_
     exact pt_next _ (zi h).symm rfl
   ·intro u33 h hl34 hr35
    refine cond_some h (fun hg1_2 h => ?_) (fun hg1_2 h => ?_)
    ·refine yx hn 3 ?_
     refine yd hg1_2 5 ?_
     refine ye [0,1,23,24,4,21] ?_
     exact hl34 _ (zi h).symm
    ·obtain ⟨v2, hv2, h⟩:=zn h
     refine yx hn 3 ?_
     refine yd hg1_2 2 ?_
     refine yk [24] [18,17] ?_
     refine ytt (24,.inv (J v2.1)) (19,vb v2.2) 2 ⟨op_yield _ _ 24 l v1.1 s18 v2 hY hv2 rfl rfl rfl⟩ ?_
     refine ye [0,1,23,24,4,21] ?_
     exact hl34 _ (zi h).symm
theorem ok_dots_Lines (mx:Int) (b:(List Int)) (r:(List (List Int))) (h:Sh.dots_Lines b=some r):FnG Tryz.prog (GL mx) 50 [.fl .shr 1 (map (int .u8) b)] (.fr .ro false 1 (flatten (map Row_int_u8.ienc r))):=by
  unfold Sh.dots_Lines at h
  refine yG 14 func50 fun g0 hn hio => ?_
  refine yyy hn 1 [0,14] ?_
  refine yxx hn 0 ?_
  refine yS (.box 80 [vz]) 0 ⟨oA (op_alloc _ _ zr80)⟩ ?_
  refine yee [0,14,3] ?_
  refine ht_seq ?_
  refine ht_seq ?_
  obtain ⟨v1, hv1, h⟩:=zn h
  refine yx hn 1 ?_
  refine yk [] [5] ?_
  refine yt (6,.cloB 80 [.box 25 [fb v1]]) 0 ⟨op_callS _ _ 67 _ _ rfl call67 rfl rfl (ok_dots_lines b _ hv1) rfl⟩ ?_
  refine yee [14,3,6] ?_
  refine ht_block ?_
  refine ht_pick [2,0,1] (by kernel_rfl) (es':=[(6,.cloB 80 [.box 25 [fb v1]]),(14,.glob (GL mx)),(3,.box 80 [vz])]) rfl ?_
  refine ht_sub (fs:=[(6,.cloB 80 [.box 25 [fb v1]]),(14,.glob (GL mx)),(3,.box 80 [.fr (.own 25) false 1 (flatten (map Row_int_u8.ienc []))])]) (.same _ (.same _ (.box _ _ (subs_cons (sub_nil_fr 25 false 1) (subs_nil)) rfl .nil))) ?_
  refine ht_rangeF h 80 6 7 15 _ [14, 3] call80 (fun (s7:(List (List Int)))=>[(14, .glob (GL mx)), (3, .box 80 [.fr (.own 25) false 1 (flatten (map Row_int_u8.ienc s7))])]) (fun (():Unit)=>[]) (fun l J Y hY t t' h=>ok_dots_lines_1 mx l J Y hY v1 t t' h) hn rfl (fun _=>rfl) (fun _=>rfl) (fun _=>rfl) rfl rfl (fun _=>⟨rfl, rfl⟩) rfl (glIn_look 14 rfl) ?_ ?_ ?_
  ·rintro kk g0 hn hio x s7 u h
   refine ht_es (es':=[(7,fb x),(14,.glob (GL mx)),(3,.box 80 [.fr (.own 25) false 1 (flatten (map Row_int_u8.ienc s7))]),(14,.v (kk.tm.getD 14 undef)),(3,.v (kk.tm.getD 3 undef)),(15,.inv kk.ready)]) rfl ?_
   refine yy hn 1 [14,3,15,4,14,3] ?_
   refine pt_pick [0,1,3,4,5,2] (by kernel_rfl) (es':=[(14,.glob (GL mx)),(3,.box 80 [.fr (.own 25) false 1 (flatten (map Row_int_u8.ienc s7))]),(4,fb x),(14,.v (kk.tm.getD 14 undef)),(3,.v (kk.tm.getD 3 undef)),(15,.inv kk.ready)]) rfl ?_
   refine pt_begin (es:=[(14,.glob (GL mx)),(3,.box 80 [.fr (.own 25) false 1 (flatten (map Row_int_u8.ienc s7))]),(4,fb x),(14,.v (kk.tm.getD 14 undef)),(3,.v (kk.tm.getD 3 undef))]) 15 rfl ?_
   refine ht_block ?_
   obtain ⟨v2, hv2, h⟩:=zn h
   obtain ⟨v3, hv3, h⟩:=zn h
   refine wb [[3],[4]] ?_
   refine wN [9] ?_
   refine wS (.fl .ro 1 (map (int .u8) v2)) [] ⟨LOp.frzG 0 (op_app_nil _ _ _ _ el25 rfl rfl (map_len _) hv2 (congrArg (map _) (app_nil_eq hv2))) (zl rfl) rfl⟩ ?_
   refine wN [10] ?_
   refine wS (.fr (.own 25) false 1 (flatten (map Row_int_u8.ienc [v2]))) [] ⟨op_build1_fr _ _ _ 1 (.slice none 0 0) false _ _ underlying80 sz25 zr25 rfl rfl (.cons (.ro _ _ rfl) (.nil)) rfl (by decide) (by decide)⟩ ?_
   refine wK [3] [8,11] ?_
   refine wt [(3,.box 80 [.any]),(12,.fr (.own 25) false 1 (flatten (map Row_int_u8.ienc v3)))] [] ⟨op_app_fr_cell _ 12 3 0 _ _ el80 rfl rfl (zl rfl) rfl (gflat_len Row_int_u8.ilen _) (gflat_len Row_int_u8.ilen _) hv3 (gflat_app (app_eq hv3)) (by decide) (by decide) (by decide) rfl rfl⟩ ?_
   refine wK [8,12,3] [] ?_
   refine wt [(3,.box 80 [.fr (.own 25) false 1 (flatten (map Row_int_u8.ienc v3))])] [] ⟨LOp.drop [_] (op_store_take _ _ _ _ _ _ _ _ sz80 rfl rfl rfl (zl rfl) rfl rfl)⟩ ?_
   refine we hn [14,3,15,14,3] ?_
   refine pt_inb ?_
   refine pt_pick [0,1,3,4,2] (by kernel_rfl) (es':=[(_,_),(_,_),(_,_),(_,_),(_,_)]) rfl ?_
   obtain rfl:=zi h
   exact pt_rnext 15 [14, 3] _ rfl rfl (by kernel_rfl)
  ·rintro D s7 h
   refine pt_inb ?_
   refine pt_then (ht_seq ?_)
   refine ht_frz 1 hio (es':=[(14, .glob (GL mx)), (3, .box 80 [.fr .ro false 1 (flatten (map Row_int_u8.ienc s7))])]) rfl ?_
   refine yy hn 2 [14,2] ?_
   refine pt_then (ht_ret ?_)
   refine pt_pick [1] (by kernel_rfl) (es':=[(_,_)]) rfl ?_
   obtain rfl:=zi h
   exact pt_ret hio rfl (.tmp _ _ .nil) rfl rfl
  ·rintro D ⟨⟩ h
   cases h
theorem ok_internal_stringslite_HasPrefix (s:ByteArray) (prefix_:ByteArray) (r:Bool) (h:Sh.internal_stringslite_HasPrefix s prefix_=some r):FnOK Tryz.prog 82 [.v (.string s), .v (.string prefix_)] (.v (.bool r)):=by
  unfold Sh.internal_stringslite_HasPrefix at h
  refine yO 18 func82 fun g0 hn hio => ?_
  refine yyy hn 1 [0,1] ?_
  refine ht_seq ?_
  refine ht_joinS h (fun (s2:Bool)=>[(4,vb s2)]) ?_ ?_
  ·rintro s2 h
   refine pt_then (ht_ret ?_)
   obtain rfl:=zi h
   exact pt_ret hio rfl (.tmp _ _ .nil) rfl rfl
  ·intro u3 h hl4 hr5
   refine cond_some h (fun hg1_5 h => ?_) (fun hg1_5 h => ?_)
   ·obtain ⟨v1, hv1, h⟩:=zn h
    refine yx hn 6 ?_
    refine yd hg1_5 3 ?_
    refine yS (vs v1) 4 ⟨op_substr _ _ _ 0 (prefix_.size:Int) _ underlying9 rfl rfl ⟨_,rfl⟩ hv1⟩ ?_
    refine ye [4] ?_
    exact hl4 _ (zi h).symm
   ·refine yx hn 6 ?_
    refine yd hg1_5 8 ?_
    refine ye [4] ?_
    exact hl4 _ (zi h).symm
theorem ok_internal_stringslite_TrimPrefix (s:ByteArray) (prefix_:ByteArray) (r:ByteArray) (h:Sh.internal_stringslite_TrimPrefix s prefix_=some r):FnOK Tryz.prog 68 [.v (.string s), .v (.string prefix_)] (.v (.string r)):=by
  unfold Sh.internal_stringslite_TrimPrefix at h
  refine yO 13 func68 fun g0 hn hio => ?_
  refine yyy hn 1 [0,1] ?_
  refine ht_seq ?_
  refine ht_seq ?_
  obtain ⟨v1, hv1, h⟩:=zn h
  refine yx hn 2 ?_
  refine ys 0 ⟨lk call82 (ok_internal_stringslite_HasPrefix _ _ _ hv1)⟩ ?_
  refine yee [0,1,7] ?_
  refine ht_cond _ rfl (fun hb2 => ?_) (fun hb2 => ?_)
  ·have h:=cond_t hb2 h
   refine ht_seq ?_
   obtain ⟨v3, hv3, h⟩:=zn h
   refine yx hn 3 ?_
   refine yS (vs v3) 1 ⟨op_substr _ _ _ (prefix_.size:Int) (s.size:Int) _ underlying9 rfl ⟨_,rfl⟩ rfl hv3⟩ ?_
   refine yee [4] ?_
   refine ht_ret ?_
   refine pt_r_then ?_
   obtain rfl:=zi h
   exact pt_ret hio rfl (.tmp _ _ .nil) rfl rfl
  ·have h:=cond_f hb2 h
   refine ht_skip ?_
   refine pt_then ?_
   refine yyy hn 2 [4] ?_
   refine ht_ret ?_
   obtain rfl:=zi h
   exact pt_ret hio rfl (.tmp _ _ .nil) rfl rfl
theorem ok_strings_TrimPrefix (s:ByteArray) (prefix_:ByteArray) (r:ByteArray) (h:Sh.strings_TrimPrefix s prefix_=some r):FnOK Tryz.prog 51 [.v (.string s), .v (.string prefix_)] (.v (.string r)):=by
  unfold Sh.strings_TrimPrefix at h
  refine yO 8 func51 fun g0 hn hio => ?_
  refine yyy hn 1 [0,1] ?_
  refine ht_seq ?_
  obtain ⟨v1, hv1, h⟩:=zn h
  refine yx hn 2 ?_
  refine ys 1 ⟨lk call68 (ok_internal_stringslite_TrimPrefix _ _ _ hv1)⟩ ?_
  refine yee [4] ?_
  refine ht_ret ?_
  obtain rfl:=zi h
  exact pt_ret hio rfl (.tmp _ _ .nil) rfl rfl
theorem ok_internal_stringslite_CutPrefix (s:ByteArray) (prefix_:ByteArray) (r:(ByteArray×Bool)) (h:Sh.internal_stringslite_CutPrefix s prefix_=some r):FnOK Tryz.prog 83 [.v (.string s), .v (.string prefix_)] (.tup [.v (.string r.1), .v (.bool r.2)]):=by
  unfold Sh.internal_stringslite_CutPrefix at h
  refine yO 15 func83 fun g0 hn hio => ?_
  refine yyy hn 2 [0,1] ?_
  refine ht_seq ?_
  refine ht_seq ?_
  obtain ⟨v1, hv1, h⟩:=zn h
  refine yx hn 2 ?_
  refine ys 1 ⟨lk call82 (ok_internal_stringslite_HasPrefix _ _ _ hv1)⟩ ?_
  refine yee [0,1,9] ?_
  refine ht_cond _ rfl (fun hb2 => ?_) (fun hb2 => ?_)
  ·have h:=cond_t hb2 h
   refine yyy hn 3 [4,5] ?_
   refine ht_ret ?_
   refine pt_r_then ?_
   obtain rfl:=zi h
   exact pt_ret hio rfl (.tmp _ _ (.tmp _ _ .nil)) rfl rfl
  ·have h:=cond_f hb2 h
   refine ht_skip ?_
   refine pt_then (ht_seq ?_)
   obtain ⟨v3, hv3, h⟩:=zn h
   refine yx hn 3 ?_
   refine yS (vs v3) 2 ⟨op_substr _ _ _ (prefix_.size:Int) (s.size:Int) _ underlying9 rfl ⟨_,rfl⟩ rfl hv3⟩ ?_
   refine yee [4,5] ?_
   refine ht_ret ?_
   obtain rfl:=zi h
   exact pt_ret hio rfl (.tmp _ _ (.tmp _ _ .nil)) rfl rfl
theorem ok_strings_CutPrefix (s:ByteArray) (prefix_:ByteArray) (r:(ByteArray×Bool)) (h:Sh.strings_CutPrefix s prefix_=some r):FnOK Tryz.prog 69 [.v (.string s), .v (.string prefix_)] (.tup [.v (.string r.1), .v (.bool r.2)]):=by
  unfold Sh.strings_CutPrefix at h
  refine yO 11 func69 fun g0 hn hio => ?_
  refine yyy hn 2 [0,1] ?_
  refine ht_seq ?_
  obtain ⟨v1, hv1, h⟩:=zn h
  refine yx hn 2 ?_
  refine ys 4 ⟨lk call83 (ok_internal_stringslite_CutPrefix _ _ _ hv1)⟩ ?_
  refine yee [4,5] ?_
  refine ht_ret ?_
  obtain rfl:=zi h
  exact pt_ret hio rfl (.tmp _ _ (.tmp _ _ .nil)) rfl rfl
theorem ok_internal_stringslite_HasSuffix (s:ByteArray) (suffix:ByteArray) (r:Bool) (h:Sh.internal_stringslite_HasSuffix s suffix=some r):FnOK Tryz.prog 95 [.v (.string s), .v (.string suffix)] (.v (.bool r)):=by
  unfold Sh.internal_stringslite_HasSuffix at h
  refine yO 21 func95 fun g0 hn hio => ?_
  refine yyy hn 1 [0,1] ?_
  refine ht_seq ?_
  refine ht_joinS h (fun (s3:Bool)=>[(4,vb s3)]) ?_ ?_
  ·rintro s3 h
   refine pt_then (ht_ret ?_)
   obtain rfl:=zi h
   exact pt_ret hio rfl (.tmp _ _ .nil) rfl rfl
  ·intro u4 h hl5 hr6
   refine cond_some h (fun hg1_5 h => ?_) (fun hg1_5 h => ?_)
   ·obtain ⟨v1, hv1, h⟩:=zn h
    obtain ⟨v2, hv2, h⟩:=zn h
    refine yx hn 6 ?_
    refine yd hg1_5 5 ?_
    refine ys 0 ⟨lb hv1⟩ ?_
    refine yS (vs v2) 4 ⟨op_substr _ _ _ v1 (s.size:Int) _ underlying9 rfl ⟨_,rfl⟩ rfl hv2⟩ ?_
    refine ye [4] ?_
    exact hl5 _ (zi h).symm
   ·refine yx hn 6 ?_
    refine yd hg1_5 11 ?_
    refine ye [4] ?_
    exact hl5 _ (zi h).symm
theorem ok_internal_stringslite_CutSuffix (s:ByteArray) (suffix:ByteArray) (r:(ByteArray×Bool)) (h:Sh.internal_stringslite_CutSuffix s suffix=some r):FnOK Tryz.prog 84 [.v (.string s), .v (.string suffix)] (.tup [.v (.string r.1), .v (.bool r.2)]):=by
  unfold Sh.internal_stringslite_CutSuffix at h
  refine yO 18 func84 fun g0 hn hio => ?_
  refine yyy hn 2 [0,1] ?_
  refine ht_seq ?_
  refine ht_seq ?_
  obtain ⟨v1, hv1, h⟩:=zn h
  refine yx hn 2 ?_
  refine ys 1 ⟨lk call95 (ok_internal_stringslite_HasSuffix _ _ _ hv1)⟩ ?_
  refine yee [0,1,9] ?_
  refine ht_cond _ rfl (fun hb2 => ?_) (fun hb2 => ?_)
  ·have h:=cond_t hb2 h
   refine yyy hn 3 [4,5] ?_
   refine ht_ret ?_
   refine pt_r_then ?_
   obtain rfl:=zi h
   exact pt_ret hio rfl (.tmp _ _ (.tmp _ _ .nil)) rfl rfl
  ·have h:=cond_f hb2 h
   refine ht_skip ?_
   refine pt_then (ht_seq ?_)
   obtain ⟨v3, hv3, h⟩:=zn h
   obtain ⟨v4, hv4, h⟩:=zn h
   refine yx hn 5 ?_
   refine ys 0 ⟨lb hv3⟩ ?_
   refine yS (vs v4) 2 ⟨op_substr _ _ _ 0 v3 _ underlying9 rfl rfl ⟨_,rfl⟩ hv4⟩ ?_
   refine yee [4,5] ?_
   refine ht_ret ?_
   obtain rfl:=zi h
   exact pt_ret hio rfl (.tmp _ _ (.tmp _ _ .nil)) rfl rfl
theorem ok_strings_CutSuffix (s:ByteArray) (suffix:ByteArray) (r:(ByteArray×Bool)) (h:Sh.strings_CutSuffix s suffix=some r):FnOK Tryz.prog 70 [.v (.string s), .v (.string suffix)] (.tup [.v (.string r.1), .v (.bool r.2)]):=by
  unfold Sh.strings_CutSuffix at h
  refine yO 11 func70 fun g0 hn hio => ?_
  refine yyy hn 2 [0,1] ?_
  refine ht_seq ?_
  obtain ⟨v1, hv1, h⟩:=zn h
  refine yx hn 2 ?_
  refine ys 4 ⟨lk call84 (ok_internal_stringslite_CutSuffix _ _ _ hv1)⟩ ?_
  refine yee [4,5] ?_
  refine ht_ret ?_
  obtain rfl:=zi h
  exact pt_ret hio rfl (.tmp _ _ (.tmp _ _ .nil)) rfl rfl
theorem ok_internal_stringslite_Index (s sub:ByteArray) (r:Int) (h:Sh.strings_Index s sub=some r):FnOK Tryz.prog 96 [.v (.string s), .v (.string sub)] (.v (.int .i64 r)):=lib_strings_Index Tryz.stringslite_Index_one s sub r h
theorem ok_internal_stringslite_Cut (s:ByteArray) (sep:ByteArray) (r:(ByteArray×ByteArray×Bool)) (h:Sh.internal_stringslite_Cut s sep=some r):FnOK Tryz.prog 85 [.v (.string s), .v (.string sep)] (.tup [.v (.string r.1), .v (.string r.2.1), .v (.bool r.2.2)]):=by
  unfold Sh.internal_stringslite_Cut at h
  refine yO 23 func85 fun g0 hn hio => ?_
  refine yyy hn 3 [0,1] ?_
  refine ht_seq ?_
  refine ht_seq ?_
  obtain ⟨v1, hv1, h⟩:=zn h
  refine yx hn 2 ?_
  refine ys 1 ⟨lk call96 (ok_internal_stringslite_Index _ _ _ hv1)⟩ ?_
  refine yee [0,1,7] ?_
  refine yyy hn 2 [0,1,7,12] ?_
  refine ht_cond _ rfl (fun hb2 => ?_) (fun hb2 => ?_)
  ·have h:=cond_t hb2 h
   refine ht_seq ?_
   obtain ⟨v3, hv3, h⟩:=zn h
   obtain ⟨v4, hv4, h⟩:=zn h
   obtain ⟨v5, hv5, h⟩:=zn h
   refine wb [[0],[7]] ?_
   refine wN [13,14] ?_
   refine wS (vs v3) [[0],[7],[1],[18]] ⟨op_substr _ _ _ 0 v1 _ underlying9 rfl rfl ⟨_,rfl⟩ hv3⟩ ?_
   refine wN [17,19] ?_
   refine wo [] ⟨lb hv4⟩ ?_
   refine wN [16,20] ?_
   refine wS (vs v5) [[15],[21],[]] ⟨op_substr _ _ _ v4 (s.size:Int) _ underlying9 rfl ⟨_,rfl⟩ rfl hv5⟩ ?_
   refine wee hn [4,5,6] ?_
   refine ht_ret ?_
   refine pt_r_then ?_
   obtain rfl:=zi h
   exact pt_ret hio rfl (.tmp _ _ (.tmp _ _ (.tmp _ _ .nil))) rfl rfl
  ·have h:=cond_f hb2 h
   refine ht_skip ?_
   refine pt_then ?_
   refine yyy hn 4 [4,5,6] ?_
   refine ht_ret ?_
   obtain rfl:=zi h
   exact pt_ret hio rfl (.tmp _ _ (.tmp _ _ (.tmp _ _ .nil))) rfl rfl
theorem ok_strings_Cut (s:ByteArray) (sep:ByteArray) (r:(ByteArray×ByteArray×Bool)) (h:Sh.strings_Cut s sep=some r):FnOK Tryz.prog 71 [.v (.string s), .v (.string sep)] (.tup [.v (.string r.1), .v (.string r.2.1), .v (.bool r.2.2)]):=by
  unfold Sh.strings_Cut at h
  refine yO 13 func71 fun g0 hn hio => ?_
  refine yyy hn 3 [0,1] ?_
  refine ht_seq ?_
  obtain ⟨v1, hv1, h⟩:=zn h
  refine yx hn 2 ?_
  refine ys 6 ⟨lk call85 (ok_internal_stringslite_Cut _ _ _ hv1)⟩ ?_
  refine yee [4,5,6] ?_
  refine ht_ret ?_
  obtain rfl:=zi h
  exact pt_ret hio rfl (.tmp _ _ (.tmp _ _ (.tmp _ _ .nil))) rfl rfl
theorem ok_strings_splitSeq (s:ByteArray) (sep:ByteArray) (sepSave:Int) (r:(ByteArray×ByteArray×Int)) (h:Sh.strings_splitSeq s sep sepSave=some r):FnOK Tryz.prog 112 [.v (.string s), .v (.string sep), .v (.int .i64 sepSave)] (.cloB 119 [.box 9 [.v (.string r.1)], .box 9 [.v (.string r.2.1)], .box 3 [.v (.int .i64 r.2.2)]]):=by
  unfold Sh.strings_splitSeq at h
  refine yO 8 func112 fun g0 hn hio => ?_
  refine yyy hn 4 [3,4,5] ?_
  refine yxx hn 0 ?_
  refine yk [4,3,5] [] ?_
  refine yt (7,.cloB 119 [.box 9 [vs sep],.box 9 [vs s],.box 3 [vi sepSave]]) 0 ⟨op_mkclo _ _ [4,3,5] [.box 9 [vs sep],.box 9 [vs s],.box 3 [vi sepSave]] rfl rfl rfl⟩ ?_
  refine ya 0 ?_
  refine yee [6] ?_
  refine ht_ret ?_
  obtain rfl:=zi h
  exact pt_ret hio rfl (.tmp _ _ .nil) rfl rfl
theorem ok_strings_SplitSeq (s:ByteArray) (sep:ByteArray) (r:(ByteArray×ByteArray×Int)) (h:Sh.strings_SplitSeq s sep=some r):FnOK Tryz.prog 97 [.v (.string s), .v (.string sep)] (.cloB 119 [.box 9 [.v (.string r.1)], .box 9 [.v (.string r.2.1)], .box 3 [.v (.int .i64 r.2.2)]]):=by
  unfold Sh.strings_SplitSeq at h
  refine yO 8 func97 fun g0 hn hio => ?_
  refine yyy hn 1 [0,1] ?_
  refine ht_seq ?_
  obtain ⟨v1, hv1, h⟩:=zn h
  refine yx hn 2 ?_
  refine yk [] [5,6] ?_
  refine yt (7,.cloB 119 [.box 9 [vs v1.1],.box 9 [vs v1.2.1],.box 3 [vi v1.2.2]]) 0 ⟨op_callS _ _ 112 _ _ rfl call112 rfl rfl (ok_strings_splitSeq s sep 0 _ hv1) rfl⟩ ?_
  refine ya 0 ?_
  refine yee [4] ?_
  refine ht_ret ?_
  obtain rfl:=zi h
  exact pt_ret hio rfl (.tmp _ _ .nil) rfl rfl
theorem ok_unicode_utf8_decodeRuneInStringSlow (mx:Int) (s:ByteArray) (r:(Int×Int)) (h:Sh.unicode_utf8_decodeRuneInStringSlow s=some r):FnG Tryz.prog (GL mx) 122 [.v (.string s)] (.tup [.v (.int .i32 r.1), .v (.int .i64 r.2)]):=by
  unfold Sh.unicode_utf8_decodeRuneInStringSlow at h
  refine yG 117 func122 fun g0 hn hio => ?_
  refine yyy hn 2 [0,117] ?_
  refine yyy hn 3 [0,117,4] ?_
  refine ht_seq ?_
  refine yyy hn 2 [0,117,4,16] ?_
  refine ht_cond _ rfl (fun hb1 => ?_) (fun hb1 => ?_)
  ·have h:=cond_t hb1 h
   refine yyy hn 2 [117,2,3] ?_
   refine ht_ret ?_
   refine pt_pick [1,2] (by kernel_rfl) (es':=[(_,_),(_,_)]) rfl ?_
   refine pt_r_then ?_
   obtain rfl:=zi h
   exact pt_ret hio rfl (.tmp _ _ (.tmp _ _ .nil)) rfl rfl
  ·have h:=cond_f hb1 h
   refine ht_skip ?_
   refine pt_then (ht_seq ?_)
   obtain ⟨v2, hv2, h⟩:=zn h
   refine yx hn 1 ?_
   refine ys 1 ⟨lh hv2⟩ ?_
   refine yee [0,117,4,5] ?_
   refine ht_seq ?_
   obtain ⟨v3, hv3, h⟩:=zn h
   obtain ⟨v4, hv4, h⟩:=zn h
   refine yx hn 1 ?_
   refine yS (.v (.pointer (some ⟨1,(0+v3 * 1),none⟩))) 0 ⟨op_ix_globz _ _ _ _ 256 1 0 _ 1 _ underlying156 sz5 rfl rfl (ix_ok hv3).1 (ix_ok hv3).2⟩ ?_
   refine yS (.v (.int .u8 v4)) 1 ⟨op_load_glob _ _ 117 1 _ _ _ underlying5 rfl rfl rfl (gl_mem1 mx) (map_get1 hv4)⟩ ?_
   refine yee [0,117,4,5,6] ?_
   refine ht_seq ?_
   refine yyy hn 2 [0,117,4,5,6,23] ?_
   refine ht_cond _ rfl (fun hb5 => ?_) (fun hb5 => ?_)
   ·have h:=cond_t hb5 h
    refine ht_seq ?_
    obtain ⟨v6, hv6, h⟩:=zn h
    obtain ⟨v7, hv7, h⟩:=zn h
    obtain ⟨v8, hv8, h⟩:=zn h
    refine yx hn 1 ?_
    refine ys 0 ⟨lv hv6⟩ ?_
    refine ys 0 ⟨lB (shl_ok hv7)⟩ ?_
    refine ys 1 ⟨lB (shr_ok hv8)⟩ ?_
    refine yee [0,117,7] ?_
    refine ht_seq ?_
    obtain ⟨v9, hv9, h⟩:=zn h
    obtain ⟨v10, hv10, h⟩:=zn h
    obtain ⟨v11, hv11, h⟩:=zn h
    obtain ⟨v12, hv12, h⟩:=zn h
    obtain ⟨v13, hv13, h⟩:=zn h
    refine yx hn 1 ?_
    refine ys 0 ⟨lh hv9⟩ ?_
    refine ys 1 ⟨lv hv10⟩ ?_
    refine ys 1 ⟨lb hv11⟩ ?_
    refine ys 0 ⟨lb hv12⟩ ?_
    refine ys 2 ⟨lb hv13⟩ ?_
    refine yee [117,2,3] ?_
    refine ht_ret ?_
    refine pt_pick [1,2] (by kernel_rfl) (es':=[(_,_),(_,_)]) rfl ?_
    refine pt_r_then ?_
    obtain rfl:=zi h
    exact pt_ret hio rfl (.tmp _ _ (.tmp _ _ .nil)) rfl rfl
   ·have h:=cond_f hb5 h
    cases h
theorem ok_unicode_utf8_DecodeRuneInString (mx:Int) (s:ByteArray) (r:(Int×Int)) (h:Sh.unicode_utf8_DecodeRuneInString s=some r):FnG Tryz.prog (GL mx) 120 [.v (.string s)] (.tup [.v (.int .i32 r.1), .v (.int .i64 r.2)]):=by
  unfold Sh.unicode_utf8_DecodeRuneInString at h
  refine yG 19 func120 fun g0 hn hio => ?_
  refine yyy hn 2 [0,19] ?_
  refine ht_seq ?_
  refine ht_seq ?_
  refine ht_joinS h (fun (s2:Bool)=>[(0,vs s),(19,.glob (GL mx)),(10,vb s2)]) ?_ ?_
  ·rintro s2 h
   refine pt_then ?_
   refine ht_cond _ rfl (fun hb6 => ?_) (fun hb6 => ?_)
   ·have h:=cond_t hb6 h
    refine ht_seq ?_
    obtain ⟨v7, hv7, h⟩:=zn h
    obtain ⟨v8, hv8, h⟩:=zn h
    refine yx hn 1 ?_
    refine ys 0 ⟨lh hv7⟩ ?_
    refine ys 2 ⟨lv hv8⟩ ?_
    refine yee [19,2,3] ?_
    refine ht_ret ?_
    refine pt_pick [1,2] (by kernel_rfl) (es':=[(_,_),(_,_)]) rfl ?_
    refine pt_r_then ?_
    obtain rfl:=zi h
    exact pt_ret hio rfl (.tmp _ _ (.tmp _ _ .nil)) rfl rfl
   ·have h:=cond_f hb6 h
    obtain ⟨v9, hv9, h⟩:=zn h
    refine yx hn 1 ?_
    refine ys 0 ⟨lg call122 (ok_unicode_utf8_decodeRuneInStringSlow _ _ _ hv9) 19⟩ ?_
    refine ym 4 ?_
    refine yee [19,2,3] ?_
    refine ht_ret ?_
    refine pt_pick [1,2] (by kernel_rfl) (es':=[(_,_),(_,_)]) rfl ?_
    obtain rfl:=zi h
    exact pt_ret hio rfl (.tmp _ _ (.tmp _ _ .nil)) rfl rfl
  ·intro u3 h hl4 hr5
   refine cond_some h (fun hg1_2 h => ?_) (fun hg1_2 h => ?_)
   ·obtain ⟨v1, hv1, h⟩:=zn h
    refine yx hn 3 ?_
    refine yd hg1_2 1 ?_
    refine ys 2 ⟨lh hv1⟩ ?_
    refine ye [0,19,10] ?_
    exact hl4 _ (zi h).symm
   ·refine yx hn 3 ?_
    refine yd hg1_2 4 ?_
    refine ye [0,19,10] ?_
    exact hl4 _ (zi h).symm
theorem ok_strings_Index (s sub:ByteArray) (r:Int) (h:Sh.strings_Index s sub=some r):FnOK Tryz.prog 121 [.v (.string s), .v (.string sub)] (.v (.int .i64 r)):=lib_strings_Index Tryz.strings_Index_one s sub r h
theorem ok_strings_splitSeq_1 (mx:Int) (l:Nat) {S:Type} (J:S→InvT) (Y:ByteArray→S→Option (S×Bool)) (hY:YieldOK Tryz.prog l (fun x => .v (.string x)) Y J) (c0:ByteArray) (c1:ByteArray) (c2:Int) (st r:S) (h:Sh.strings_splitSeq_1 Y c0 c1 c2 st=some r):FnI Tryz.prog (GL mx) 119 l [.box 9 [.v (.string c0)], .box 9 [.v (.string c1)], .box 3 [.v (.int .i64 c2)]] (J st) (J r):=by
  unfold Sh.strings_splitSeq_1 at h
  refine yI 52 func119 fun g0 hn hio => ?_
  refine ht_seq ?_
  refine yyy hn 3 [0,1,2,3,52,53,11] ?_
  refine ht_cond _ rfl (fun hb1 => ?_) (fun hb1 => ?_)
  ·have h:=cond_t hb1 h
   refine ht_seq ?_
   refine ht_pick [0,2,4,5] (by kernel_rfl) (es':=[(_,_),(_,_),(_,_),(_,_)]) rfl ?_
   refine ht_loopS h (fun ((s12,s13):ByteArray×S)=>[(0,.v (.func (.yield l) #[] #[])),(2,.box 9 [vs s12]),(52,.glob (GL mx)),(53,.inv (J s13))]) (fun (s16:S)=>[(52,.glob (GL mx)),(53,.inv (J s16))]) ?_ ?_
   ·rintro s16 h
    refine pt_then (ht_ret ?_)
    refine pt_pick [1] (by kernel_rfl) (es':=[(53,.inv (J s16))]) rfl ?_
    refine pt_r_then ?_
    obtain rfl:=zi h
    exact pt_retI hio rfl rfl rfl
   ·rintro u17 hl18 hr19 ⟨s12, s13⟩ rr22 h ho20
    refine ht_seq ?_
    refine yyy hn 3 [0,2,52,53,14] ?_
    refine ht_cond _ rfl (fun hb23 => ?_) (fun hb23 => ?_)
    ·have h:=cond_t hb23 h
     refine ht_skip ?_
     refine pt_then ?_
     refine ht_block ?_
     refine ht_seq ?_
     obtain ⟨v3, hv3, h⟩:=zn h
     refine yx hn 1 ?_
     refine ys 0 ⟨lg call120 (ok_unicode_utf8_DecodeRuneInString _ _ _ hv3) 52⟩ ?_
     refine ym 4 ?_
     refine yee [0,2,52,53,6] ?_
     refine ht_seq ?_
     refine ht_seq ?_
     obtain ⟨v4, hv4, h⟩:=zn h
     obtain ⟨v5, hv5, h⟩:=zn h
     refine yx hn 3 ?_
     refine yS (vs v4) 0 ⟨op_substr _ _ _ 0 v3.2 _ underlying9 rfl rfl ⟨_,rfl⟩ hv4⟩ ?_
     refine yk [53] [23,20] ?_
     refine ytt (53,.inv (J v5.1)) (24,vb v5.2) 1 ⟨op_yield _ _ 53 l v4 s13 v5 hY hv5 rfl rfl rfl⟩ ?_
     refine yee [0,2,52,53,6,25] ?_
     refine ht_cond _ rfl (fun hb24 => ?_) (fun hb24 => ?_)
     ·have h:=cond_t hb24 h
      refine ht_ret ?_
      refine pt_pick [3] (by kernel_rfl) (es':=[(53,.inv (J v5.1))]) rfl ?_
      refine pt_r_then ?_
      refine pt_r_in ?_
      refine pt_r_then ?_
      refine pt_r_in ?_
      refine pt_r_then ?_
      refine pt_r_then ?_
      have h:=hr19 _ (ho20 _ (zi h).symm).symm
      obtain rfl:=zi h
      exact pt_retI hio rfl rfl rfl
     ·have h:=cond_f hb24 h
      refine ht_skip ?_
      refine pt_then ?_
      obtain ⟨v7, hv7, h⟩:=zn h
      refine yx hn 2 ?_
      refine yS (vs v7) 1 ⟨op_substr _ _ _ v3.2 (s12.size:Int) _ underlying9 rfl ⟨_,rfl⟩ rfl hv7⟩ ?_
      refine ye [0,2,52,53] ?_
      refine pt_inb ?_
      exact pt_next _ (zi h).symm rfl
    ·have h:=cond_f hb23 h
     refine ht_exit ?_
     refine pt_x_then ?_
     refine pt_x_then ?_
     refine pt_x_in ?_
     refine pt_pick [2,3] (by kernel_rfl) (es':=[(_,_),(_,_)]) rfl ?_
     exact hl18 _ (ho20 _ (zi h).symm).symm
  ·have h:=cond_f hb1 h
   refine ht_skip ?_
   refine pt_then (ht_seq ?_)
   refine ht_pick [0,1,2,3,4,5] (by kernel_rfl) (es':=[(_,_),(_,_),(_,_),(_,_),(_,_),(_,_)]) rfl ?_
   refine ht_loopS h (fun ((s37,s38):ByteArray×S)=>[(0,.v (.func (.yield l) #[] #[])),(1,.box 9 [vs c0]),(2,.box 9 [vs s37]),(3,.box 3 [vi c2]),(52,.glob (GL mx)),(53,.inv (J s38))]) (fun ((s41,s42):ByteArray×S)=>[(0,.v (.func (.yield l) #[] #[])),(2,.box 9 [vs s41]),(52,.glob (GL mx)),(53,.inv (J s42))]) ?_ ?_
   ·rintro ⟨s41, s42⟩ h
    refine pt_then ?_
    obtain ⟨v51, hv51, h⟩:=zn h
    refine yx hn 2 ?_
    refine yk [53] [50,49] ?_
    refine ytt (53,.inv (J v51.1)) (51,vb v51.2) 0 ⟨op_yield _ _ 53 l s41 s42 v51 hY hv51 rfl rfl rfl⟩ ?_
    refine ye [52,53] ?_
    refine pt_pick [1] (by kernel_rfl) (es':=[(53,.inv (J v51.1))]) rfl ?_
    obtain rfl:=zi h
    exact pt_endI hio rfl rfl rfl
   ·rintro u43 hl44 hr45 ⟨s37, s38⟩ rr48 h ho46
    refine ht_block ?_
    refine ht_seq ?_
    obtain ⟨v25, hv25, h⟩:=zn h
    refine yx hn 2 ?_
    refine ys 1 ⟨lk call121 (ok_strings_Index _ _ _ hv25)⟩ ?_
    refine yee [0,1,2,3,52,53,7] ?_
    refine ht_seq ?_
    refine yyy hn 2 [0,1,2,3,52,53,7,33] ?_
    refine ht_cond _ rfl (fun hb49 => ?_) (fun hb49 => ?_)
    ·have h:=cond_t hb49 h
     refine ht_exit ?_
     refine pt_x_then ?_
     refine pt_x_out (by decide) ?_
     refine pt_x_then ?_
     refine pt_x_in ?_
     refine pt_pick [0,2,4,5] (by kernel_rfl) (es':=[(_,_),(_,_),(_,_),(_,_)]) rfl ?_
     exact hl44 _ (ho46 _ (zi h).symm).symm
    ·have h:=cond_f hb49 h
     refine ht_skip ?_
     refine pt_then (ht_seq ?_)
     obtain ⟨v27, hv27, h⟩:=zn h
     obtain ⟨v28, hv28, h⟩:=zn h
     refine yx hn 3 ?_
     refine ys 0 ⟨lb hv27⟩ ?_
     refine yS (vs v28) 1 ⟨op_substr _ _ _ 0 v27 _ underlying9 rfl rfl ⟨_,rfl⟩ hv28⟩ ?_
     refine yee [0,1,2,3,52,53,7,8] ?_
     refine ht_seq ?_
     refine ht_seq ?_
     obtain ⟨v29, hv29, h⟩:=zn h
     refine yx hn 2 ?_
     refine yk [53] [40,39] ?_
     refine ytt (53,.inv (J v29.1)) (41,vb v29.2) 1 ⟨op_yield _ _ 53 l v28 s38 v29 hY hv29 rfl rfl rfl⟩ ?_
     refine yee [0,1,2,3,52,53,7,42] ?_
     refine ht_cond _ rfl (fun hb50 => ?_) (fun hb50 => ?_)
     ·have h:=cond_t hb50 h
      refine ht_ret ?_
      refine pt_pick [5] (by kernel_rfl) (es':=[(53,.inv (J v29.1))]) rfl ?_
      refine pt_r_then ?_
      refine pt_r_in ?_
      refine pt_r_then ?_
      refine pt_r_in ?_
      refine pt_r_then ?_
      have h:=hr45 _ (ho46 _ (zi h).symm).symm
      obtain rfl:=zi h
      exact pt_retI hio rfl rfl rfl
     ·have h:=cond_f hb50 h
      refine ht_skip ?_
      refine pt_then ?_
      obtain ⟨v31, hv31, h⟩:=zn h
      obtain ⟨v32, hv32, h⟩:=zn h
      refine yx hn 4 ?_
      refine ys 0 ⟨lb hv31⟩ ?_
      refine yS (vs v32) 1 ⟨op_substr _ _ _ v31 (s37.size:Int) _ underlying9 rfl ⟨_,rfl⟩ rfl hv32⟩ ?_
      refine ye [0,1,2,3,52,53] ?_
      refine pt_inb ?_
      exact pt_next _ (zi h).symm rfl
end Go.Proofs.YtofbofdggabfiaaGreatDoor
