/-
  The model's runs are what is told in Lean.
-/
import Derived.Test.YtjnnkhmhjcjhdaaGreatDoorProg
import Derived.KernelRfl
import Derived.Test.YtjnnkhmhjcjhdaaGreatDoorShelf
import Derived.Test.YtjnnkhmhjcjhdaaGreatDoorIdx
import Derived.Test.YtjnnkhmhjcjhdaaGreatDoorB3
import Derived.Test.YtjnnkhmhjcjhdaaGreatDoorC1
import Derived.Test.YtjnnkhmhjcjhdaaGreatDoorBC
import Derived.Test.YtjnnkhmhjcjhdaaGreatDoorSh
set_option linter.unusedVariables false
set_option linter.unusedSimpArgs false
set_option maxHeartbeats 1000000
namespace Go.Proofs.YtjnnkhmhjcjhdaaGreatDoor
open Go.Abs Go.Abs.Sh Tryz
open List (map flatten)
open Value (int)
def GL (mx:Int×Nat×Value):List (Nat×List Value):=[(0, [.int .i64 mx.1]), (1, (List.map (Value.int .u8) utf8_first)), (2, (List.map (Value.int .u8) utf8_accept)), (3, [.iface mx.2.1 mx.2.2]), (5, (List.map (Value.int .u32) digest_sines)), (6, (List.map (Value.int .i64) digest_turns)), (7, (List.map (Value.int .u64) strconv_pow10))]
theorem gl_mem0 (mx:Int×Nat×Value):(0, ([.int .i64 mx.1]:List Value))∈GL mx := .head _
theorem gl_mem1 (mx:Int×Nat×Value):(1, ((List.map (Value.int .u8) utf8_first):List Value))∈GL mx := .tail _ (.head _)
theorem gl_mem2 (mx:Int×Nat×Value):(2, ((List.map (Value.int .u8) utf8_accept):List Value))∈GL mx := .tail _ (.tail _ (.head _))
theorem gl_mem3 (mx:Int×Nat×Value):(3, ([.iface mx.2.1 mx.2.2]:List Value))∈GL mx := .tail _ (.tail _ (.tail _ (.head _)))
theorem gl_mem5 (mx:Int×Nat×Value):(5, ((List.map (Value.int .u32) digest_sines):List Value))∈GL mx := .tail _ (.tail _ (.tail _ (.tail _ (.head _))))
theorem gl_mem6 (mx:Int×Nat×Value):(6, ((List.map (Value.int .i64) digest_turns):List Value))∈GL mx := .tail _ (.tail _ (.tail _ (.tail _ (.tail _ (.head _)))))
theorem gl_mem7 (mx:Int×Nat×Value):(7, ((List.map (Value.int .u64) strconv_pow10):List Value))∈GL mx := .tail _ (.tail _ (.tail _ (.tail _ (.tail _ (.tail _ (.head _))))))
instance iUD3:UD Tryz.prog 3 (.int .i64):=⟨Tryz.underlying3⟩
instance iUD39:UD Tryz.prog 39 (.int .u64):=⟨Tryz.underlying39⟩
theorem sz5:(Tryz.prog.info? 5).map (·.size)=some 1:=by kernel_rfl
theorem zr5:(Tryz.prog.info? 5).bind (·.zero)=some (.int .u8 0):=by kernel_rfl
theorem el28:ElemT Tryz.prog 28 5 1 1:=⟨⟨Tryz.t5, .int .u8 0, Tryz.underlying28, by kernel_rfl, by kernel_rfl, by kernel_rfl, by kernel_rfl, by decide, by kernel_rfl⟩⟩
theorem zr24:(Tryz.prog.info? 24).bind (·.zero)=some (.agg #[.string ByteArray.empty, .string ByteArray.empty, .int .i64 0, .string ByteArray.empty, .string ByteArray.empty, .int .i64 0, .bool false]):=by kernel_rfl
theorem sz9:(Tryz.prog.info? 9).map (·.size)=some 1:=by kernel_rfl
theorem zr22:(Tryz.prog.info? 22).bind (·.zero)=some (.agg #[.string ByteArray.empty, .string ByteArray.empty]):=by kernel_rfl
theorem fs24:∀ fs, Tryz.prog.underlying 24=some (.struct fs)→fs.toList.map (fun f=>(Tryz.prog.info? f.type).map (·.size))=([2, 1, 1, 1, 1, 1]:List Nat).map some:=by
  intro fs h
  rw [Tryz.underlying24] at h
  cases h
  kernel_rfl
theorem sz24:(Tryz.prog.info? 24).map (·.size)=some 7:=by kernel_rfl
instance iAG24:AA Tryz.prog 24 7:=⟨by kernel_rfl⟩
theorem zr30:(Tryz.prog.info? 30).bind (·.zero)=some (.agg #[.int .i64 0, .string ByteArray.empty, .bool false, .string ByteArray.empty, .string ByteArray.empty, .slice none 0 0, .bool false, .slice none 0 0, .string ByteArray.empty, .bool false]):=by kernel_rfl
theorem fs30:∀ fs, Tryz.prog.underlying 30=some (.struct fs)→fs.toList.map (fun f=>(Tryz.prog.info? f.type).map (·.size))=([1, 1, 3, 1, 1, 1, 1, 1]:List Nat).map some:=by
  intro fs h
  rw [Tryz.underlying30] at h
  cases h
  kernel_rfl
theorem sz30:(Tryz.prog.info? 30).map (·.size)=some 10:=by kernel_rfl
instance iAG30:AA Tryz.prog 30 10:=⟨by kernel_rfl⟩
theorem sz22:(Tryz.prog.info? 22).map (·.size)=some 2:=by kernel_rfl
theorem zr4:(Tryz.prog.info? 4).bind (·.zero)=some (.bool false):=by kernel_rfl
instance iAG9:AS Tryz.prog 9:=⟨by kernel_rfl⟩
instance iUD9:UD Tryz.prog 9 .string:=⟨Tryz.underlying9⟩
instance iUD5:UD Tryz.prog 5 (.int .u8):=⟨Tryz.underlying5⟩
instance iUD21:UD Tryz.prog 21 (.int .i32):=⟨Tryz.underlying21⟩
instance iAG3:AS Tryz.prog 3:=⟨by kernel_rfl⟩
instance iAG65:AS Tryz.prog 65:=⟨by kernel_rfl⟩
theorem sz4:(Tryz.prog.info? 4).map (·.size)=some 1:=by kernel_rfl
instance iAG4:AS Tryz.prog 4:=⟨by kernel_rfl⟩
instance iUD28:UD Tryz.prog 28 (.slice 5):=⟨Tryz.underlying28⟩
instance iFO24_0:FO Tryz.prog 24 0 0:=⟨by kernel_rfl⟩
theorem sz3:(Tryz.prog.info? 3).map (·.size)=some 1:=by kernel_rfl
instance iFO24_1:FO Tryz.prog 24 1 2:=⟨by kernel_rfl⟩
instance iFO24_2:FO Tryz.prog 24 2 3:=⟨by kernel_rfl⟩
instance iFO24_3:FO Tryz.prog 24 3 4:=⟨by kernel_rfl⟩
instance iFO24_4:FO Tryz.prog 24 4 5:=⟨by kernel_rfl⟩
instance iFO30_0:FO Tryz.prog 30 0 0:=⟨by kernel_rfl⟩
instance iFO30_6:FO Tryz.prog 30 6 8:=⟨by kernel_rfl⟩
theorem sz27:(Tryz.prog.info? 27).map (·.size)=some 1:=by kernel_rfl
theorem el27:ElemT Tryz.prog 27 26 3 40:=⟨⟨Tryz.t26, .agg #[.bool false, .string ByteArray.empty, .string ByteArray.empty], Tryz.underlying27, by kernel_rfl, by kernel_rfl, by kernel_rfl, by kernel_rfl, by decide, by kernel_rfl⟩⟩
instance iFO30_3:FO Tryz.prog 30 3 5:=⟨by kernel_rfl⟩
instance iAG27:AS Tryz.prog 27:=⟨by kernel_rfl⟩
theorem sz28:(Tryz.prog.info? 28).map (·.size)=some 1:=by kernel_rfl
instance iFO30_5:FO Tryz.prog 30 5 7:=⟨by kernel_rfl⟩
instance iAG28:AS Tryz.prog 28:=⟨by kernel_rfl⟩
theorem fs80:∀ fs, Tryz.prog.underlying 80=some (.struct fs)→fs.toList.map (fun f=>(Tryz.prog.info? f.type).map (·.size))=([10, 7, 1, 1, 1]:List Nat).map some:=by
  intro fs h
  rw [Tryz.underlying80] at h
  cases h
  kernel_rfl
theorem zr80:(Tryz.prog.info? 80).bind (·.zero)=some (.agg #[.int .i64 0, .string ByteArray.empty, .bool false, .string ByteArray.empty, .string ByteArray.empty, .slice none 0 0, .bool false, .slice none 0 0, .string ByteArray.empty, .bool false, .string ByteArray.empty, .string ByteArray.empty, .int .i64 0, .string ByteArray.empty, .string ByteArray.empty, .int .i64 0, .bool false, .int .i64 0, .int .i64 0, .slice none 0 0]):=by kernel_rfl
instance iSZ5:SZ Tryz.prog 5 1:=⟨by kernel_rfl⟩
instance iAG5:AS Tryz.prog 5:=⟨by kernel_rfl⟩
instance iFO80_0:FO Tryz.prog 80 0 0:=⟨by kernel_rfl⟩
theorem zr28:(Tryz.prog.info? 28).bind (·.zero)=some (.slice none 0 0):=by kernel_rfl
theorem zr3:(Tryz.prog.info? 3).bind (·.zero)=some (.int .i64 0):=by kernel_rfl
theorem zr35:(Tryz.prog.info? 35).bind (·.zero)=some (.int .i64 0):=by kernel_rfl
instance iAG35:AS Tryz.prog 35:=⟨by kernel_rfl⟩
theorem zr51:(Tryz.prog.info? 51).bind (·.zero)=some (.agg #[.int .i64 0, .slice none 0 0]):=by kernel_rfl
theorem zr153:(Tryz.prog.info? 153).bind (·.zero)=some (.agg #[.pointer none, .slice none 0 0]):=by kernel_rfl
instance iUD106:UD Tryz.prog 106 (.int .u32):=⟨Tryz.underlying106⟩
theorem zr9:(Tryz.prog.info? 9).bind (·.zero)=some (.string ByteArray.empty):=by kernel_rfl
theorem fs51:∀ fs, Tryz.prog.underlying 51=some (.struct fs)→fs.toList.map (fun f=>(Tryz.prog.info? f.type).map (·.size))=([1, 1]:List Nat).map some:=by
  intro fs h
  rw [Tryz.underlying51] at h
  cases h
  kernel_rfl
theorem sz51:(Tryz.prog.info? 51).map (·.size)=some 2:=by kernel_rfl
theorem fs55:∀ fs, Tryz.prog.underlying 55=some (.struct fs)→fs.toList.map (fun f=>(Tryz.prog.info? f.type).map (·.size))=([2, 1, 8, 1]:List Nat).map some:=by
  intro fs h
  rw [Tryz.underlying55] at h
  cases h
  kernel_rfl
theorem zr55:(Tryz.prog.info? 55).bind (·.zero)=some (.agg #[.int .i64 0, .slice none 0 0, .bool false, .bool false, .string ByteArray.empty, .string ByteArray.empty, .slice none 0 0, .slice none 0 0, .bool false, .string ByteArray.empty, .int .i64 0, .bool false]):=by kernel_rfl
theorem sz55:(Tryz.prog.info? 55).map (·.size)=some 12:=by kernel_rfl
theorem sz26:(Tryz.prog.info? 26).map (·.size)=some 3:=by kernel_rfl
theorem fs53:∀ fs, Tryz.prog.underlying 53=some (.struct fs)→fs.toList.map (fun f=>(Tryz.prog.info? f.type).map (·.size))=([3, 1, 1, 1, 1, 1]:List Nat).map some:=by
  intro fs h
  rw [Tryz.underlying53] at h
  cases h
  kernel_rfl
theorem zr53:(Tryz.prog.info? 53).bind (·.zero)=some (.agg #[.bool false, .string ByteArray.empty, .string ByteArray.empty, .slice none 0 0, .slice none 0 0, .bool false, .string ByteArray.empty, .int .i64 0]):=by kernel_rfl
theorem sz53:(Tryz.prog.info? 53).map (·.size)=some 8:=by kernel_rfl
instance iFO30_2:FO Tryz.prog 30 2 2:=⟨by kernel_rfl⟩
instance iAG26:AA Tryz.prog 26 3:=⟨by kernel_rfl⟩
theorem fs62:∀ fs, Tryz.prog.underlying 62=some (.struct fs)→fs.toList.map (fun f=>(Tryz.prog.info? f.type).map (·.size))=([1, 1, 1]:List Nat).map some:=by
  intro fs h
  rw [Tryz.underlying62] at h
  cases h
  kernel_rfl
theorem zr62:(Tryz.prog.info? 62).bind (·.zero)=some (.agg #[.int .i64 0, .int .i64 0, .slice none 0 0]):=by kernel_rfl
instance iFO62_0:FO Tryz.prog 62 0 0:=⟨by kernel_rfl⟩
instance iFO62_1:FO Tryz.prog 62 1 1:=⟨by kernel_rfl⟩
instance iFO62_2:FO Tryz.prog 62 2 2:=⟨by kernel_rfl⟩
instance iAG60:AS Tryz.prog 60:=⟨by kernel_rfl⟩
instance iUD60:UD Tryz.prog 60 (.slice 53):=⟨Tryz.underlying60⟩
instance iLiT_Mail:LenI T_Mail.ienc 8:=⟨T_Mail.ilen⟩
instance iSZ53:SZ Tryz.prog 53 8:=⟨by kernel_rfl⟩
instance iAG53:AA Tryz.prog 53 8:=⟨by kernel_rfl⟩
theorem fs26:∀ fs, Tryz.prog.underlying 26=some (.struct fs)→fs.toList.map (fun f=>(Tryz.prog.info? f.type).map (·.size))=([1, 1, 1]:List Nat).map some:=by
  intro fs h
  rw [Tryz.underlying26] at h
  cases h
  kernel_rfl
theorem zr26:(Tryz.prog.info? 26).bind (·.zero)=some (.agg #[.bool false, .string ByteArray.empty, .string ByteArray.empty]):=by kernel_rfl
instance iFO26_0:FO Tryz.prog 26 0 0:=⟨by kernel_rfl⟩
instance iFO26_1:FO Tryz.prog 26 1 1:=⟨by kernel_rfl⟩
instance iFO26_2:FO Tryz.prog 26 2 2:=⟨by kernel_rfl⟩
instance iFO53_0:FO Tryz.prog 53 0 0:=⟨by kernel_rfl⟩
instance iFO53_1:FO Tryz.prog 53 1 3:=⟨by kernel_rfl⟩
instance iUD27:UD Tryz.prog 27 (.slice 26):=⟨Tryz.underlying27⟩
instance iLT_Path:LenE T_Path.enc 3:=⟨T_Path.len⟩
instance iSZ26:SZ Tryz.prog 26 3:=⟨by kernel_rfl⟩
instance iFO53_2:FO Tryz.prog 53 2 4:=⟨by kernel_rfl⟩
instance iFO53_3:FO Tryz.prog 53 3 5:=⟨by kernel_rfl⟩
instance iFO53_4:FO Tryz.prog 53 4 6:=⟨by kernel_rfl⟩
instance iFO53_5:FO Tryz.prog 53 5 7:=⟨by kernel_rfl⟩
instance iAG62:AA Tryz.prog 62 3:=⟨by kernel_rfl⟩
theorem za222:((Tryz.prog.info? 222).bind (·.zero)).map (·.cells.toList)=some (List.map (Value.int .u32) (List.replicate 16 (0:Int))):=by kernel_rfl
theorem sz106:(Tryz.prog.info? 106).map (·.size)=some 1:=by kernel_rfl
theorem sz222:(Tryz.prog.info? 222).map (·.size)=some 16:=by kernel_rfl
instance iUD31:UD Tryz.prog 31 (.slice 3):=⟨Tryz.underlying31⟩
instance iSZ3:SZ Tryz.prog 3 1:=⟨by kernel_rfl⟩
instance iFO30_4:FO Tryz.prog 30 4 6:=⟨by kernel_rfl⟩
instance iFO30_1:FO Tryz.prog 30 1 1:=⟨by kernel_rfl⟩
instance iFO80_3:FO Tryz.prog 80 3 18:=⟨by kernel_rfl⟩
instance iAG55:AA Tryz.prog 55 12:=⟨by kernel_rfl⟩
theorem zr137:(Tryz.prog.info? 137).bind (·.zero)=some (.slice none 0 0):=by kernel_rfl
theorem el137:ElemT Tryz.prog 137 28 1 24:=⟨⟨Tryz.t28, .slice none 0 0, Tryz.underlying137, by kernel_rfl, by kernel_rfl, by kernel_rfl, by kernel_rfl, by decide, by kernel_rfl⟩⟩
theorem sz137:(Tryz.prog.info? 137).map (·.size)=some 1:=by kernel_rfl
instance iAG137:AS Tryz.prog 137:=⟨by kernel_rfl⟩
instance iUD137:UD Tryz.prog 137 (.slice 28):=⟨Tryz.underlying137⟩
instance iLiRow_int_u8:LenI Row_int_u8.ienc 1:=⟨Row_int_u8.ilen⟩
instance iSZ28:SZ Tryz.prog 28 1:=⟨by kernel_rfl⟩
theorem sz34:(Tryz.prog.info? 34).map (·.size)=some 1:=by kernel_rfl
theorem el34:ElemT Tryz.prog 34 55 12 168:=⟨⟨Tryz.t55, .agg #[.int .i64 0, .slice none 0 0, .bool false, .bool false, .string ByteArray.empty, .string ByteArray.empty, .slice none 0 0, .slice none 0 0, .bool false, .string ByteArray.empty, .int .i64 0, .bool false], Tryz.underlying34, by kernel_rfl, by kernel_rfl, by kernel_rfl, by kernel_rfl, by decide, by kernel_rfl⟩⟩
instance iFO80_4:FO Tryz.prog 80 4 19:=⟨by kernel_rfl⟩
instance iAG34:AS Tryz.prog 34:=⟨by kernel_rfl⟩
theorem cutok74:CutOK Tryz.prog 74 0:=fun p1 p2 n c1 k c2 xs ys m w hx hy hr1 hr2 h1 h2 hp1 hcap hs hk hm=>Tryz.bytes_Cut_all p1 p2 n c1 k c2 xs ys m w hx hy hr1 hr2 h1 h2 hp1 hcap hs hk hm
theorem za91:((Tryz.prog.info? 91).bind (·.zero)).map (·.cells.toList)=some (List.map (Value.int .u8) (List.replicate 16 (0:Int))):=by kernel_rfl
theorem za205:((Tryz.prog.info? 205).bind (·.zero)).map (·.cells.toList)=some (List.map (Value.int .u8) (List.replicate 64 (0:Int))):=by kernel_rfl
theorem zr225:(Tryz.prog.info? 225).bind (·.zero)=some (.agg #[.int .u32 0, .int .u32 0, .int .u32 0, .int .u32 0]):=by kernel_rfl
theorem za225:((Tryz.prog.info? 225).bind (·.zero)).map (·.cells.toList)=some (List.map (Value.int .u32) (List.replicate 4 (0:Int))):=by kernel_rfl
theorem sz225:(Tryz.prog.info? 225).map (·.size)=some 4:=by kernel_rfl
theorem sz241:(Tryz.prog.info? 241).map (·.size)=some 64:=by kernel_rfl
theorem sz244:(Tryz.prog.info? 244).map (·.size)=some 4:=by kernel_rfl
instance iUD105:UD Tryz.prog 105 (.int .u64):=⟨Tryz.underlying105⟩
theorem sz91:(Tryz.prog.info? 91).map (·.size)=some 16:=by kernel_rfl
theorem sz205:(Tryz.prog.info? 205).map (·.size)=some 64:=by kernel_rfl
instance iFO80_1:FO Tryz.prog 80 1 10:=⟨by kernel_rfl⟩
instance iFO30_7:FO Tryz.prog 30 7 9:=⟨by kernel_rfl⟩
theorem zr122:(Tryz.prog.info? 122).bind (·.zero)=some (.agg #[.int .i64 0, .string ByteArray.empty, .bool false, .string ByteArray.empty, .string ByteArray.empty, .slice none 0 0]):=by kernel_rfl
theorem fs122:∀ fs, Tryz.prog.underlying 122=some (.struct fs)→fs.toList.map (fun f=>(Tryz.prog.info? f.type).map (·.size))=([1, 1, 3, 1]:List Nat).map some:=by
  intro fs h
  rw [Tryz.underlying122] at h
  cases h
  kernel_rfl
theorem sz122:(Tryz.prog.info? 122).map (·.size)=some 6:=by kernel_rfl
instance iAG122:AA Tryz.prog 122 6:=⟨by kernel_rfl⟩
instance iFO122_0:FO Tryz.prog 122 0 0:=⟨by kernel_rfl⟩
theorem zr120:(Tryz.prog.info? 120).bind (·.zero)=some (.slice none 0 0):=by kernel_rfl
theorem sz120:(Tryz.prog.info? 120).map (·.size)=some 1:=by kernel_rfl
instance iAG120:AS Tryz.prog 120:=⟨by kernel_rfl⟩
theorem zr181:(Tryz.prog.info? 181).bind (·.zero)=some (.agg #[.string ByteArray.empty, .string ByteArray.empty]):=by kernel_rfl
theorem fs181:∀ fs, Tryz.prog.underlying 181=some (.struct fs)→fs.toList.map (fun f=>(Tryz.prog.info? f.type).map (·.size))=([1, 1]:List Nat).map some:=by
  intro fs h
  rw [Tryz.underlying181] at h
  cases h
  kernel_rfl
theorem sz181:(Tryz.prog.info? 181).map (·.size)=some 2:=by kernel_rfl
instance iAG181:AA Tryz.prog 181 2:=⟨by kernel_rfl⟩
instance iUD49:UD Tryz.prog 49 (.slice 9):=⟨Tryz.underlying49⟩
instance iSZ9:SZ Tryz.prog 9 1:=⟨by kernel_rfl⟩
instance iUD120:UD Tryz.prog 120 (.slice 181):=⟨Tryz.underlying120⟩
instance iLT_Param:LenE T_Param.enc 2:=⟨T_Param.len⟩
instance iFO181_0:FO Tryz.prog 181 0 0:=⟨by kernel_rfl⟩
instance iSZ181:SZ Tryz.prog 181 2:=⟨by kernel_rfl⟩
theorem el120:ElemT Tryz.prog 120 181 2 32:=⟨⟨Tryz.t181, .agg #[.string ByteArray.empty, .string ByteArray.empty], Tryz.underlying120, by kernel_rfl, by kernel_rfl, by kernel_rfl, by kernel_rfl, by decide, by kernel_rfl⟩⟩
instance iFO122_1:FO Tryz.prog 122 1 1:=⟨by kernel_rfl⟩
instance iFO122_3:FO Tryz.prog 122 3 5:=⟨by kernel_rfl⟩
instance iFO181_1:FO Tryz.prog 181 1 1:=⟨by kernel_rfl⟩
instance iFO122_2:FO Tryz.prog 122 2 2:=⟨by kernel_rfl⟩
instance iFO80_2:FO Tryz.prog 80 2 17:=⟨by kernel_rfl⟩
instance iUD34:UD Tryz.prog 34 (.slice 55):=⟨Tryz.underlying34⟩
instance iLiT_Out:LenI T_Out.ienc 12:=⟨T_Out.ilen⟩
instance iSZ55:SZ Tryz.prog 55 12:=⟨by kernel_rfl⟩
instance iFO55_0:FO Tryz.prog 55 0 0:=⟨by kernel_rfl⟩
instance iFO51_0:FO Tryz.prog 51 0 0:=⟨by kernel_rfl⟩
abbrev T_Gate.c (x:T_Gate) (r:List AV):List AV:=vi x.Phase::vs x.Helo::vb x.From.Null::vs x.From.Local::vs x.From.Domain :: .fl .shr 3 (flatten (map T_Path.enc x.To))::vb x.Quiet::fb x.Buf::vs x.Challenge::vb x.Proved::r
abbrev T_Mail.c (x:T_Mail) (r:List AV):List AV:=vb x.From.Null::vs x.From.Local::vs x.From.Domain :: .fl .shr 3 (flatten (map T_Path.enc x.To))::fb x.Body::vb x.Quiet::vs x.Helo::vi x.At::r
abbrev T_Config.c (x:T_Config) (r:List AV):List AV:=vs (x.Domains.getD 0 z0)::vs (x.Domains.getD 1 z0)::vi x.Expiry::vs x.User::vs x.Secret::vi x.Log::vb x.Held::r
abbrev T_Cmd.c (x:T_Cmd) (r:List AV):List AV:=vi x.Kind::vs x.Text::vb x.Path.Null::vs x.Path.Local::vs x.Path.Domain :: .fl .shr 2 (flatten (map T_Param.enc x.Params))::r
theorem ok_wherrylaw23_conf (r:T_Config) (h:Sh.wherrylaw23_conf  = some r):FnOK Tryz.prog 20 [] (.agg [.v (.string ((r.Domains.getD 0 (⟨#[]⟩:ByteArray)))), .v (.string ((r.Domains.getD 1 (⟨#[]⟩:ByteArray)))), .v (.int .i64 r.Expiry), .v (.string r.User), .v (.string r.Secret), .v (.int .i64 r.Log), .v (.bool r.Held)]):=by
  unfold Sh.wherrylaw23_conf at h
  refine yO 3 func20 fun g0 hn hio => ?_
  refine yxx hn 0 ?_
  refine yS (.box 24 [vs z0,vs z0,vi 0,vs z0,vs z0,vi 0,vb false]) 0 ⟨oA (op_alloc _ _ zr24)⟩ ?_
  refine yee [0] ?_
  refine yxx hn 0 ?_
  refine yS (.agg [vs (⟨#[97]⟩:ByteArray),vs (⟨#[98]⟩:ByteArray)]) 0 ⟨op_build_arrA _ _ (.agg #[.string ByteArray.empty,.string ByteArray.empty]) (map Value.string (([(⟨#[97]⟩:ByteArray),(⟨#[98]⟩:ByteArray)]:List ByteArray))) [(0,.string (⟨#[97]⟩:ByteArray)),(1,.string (⟨#[98]⟩:ByteArray))] underlying22 sz9 zr22 (fun _ V w o a hv hes=>by simp only [List.map_toArray,List.map_cons,List.map_nil]; try rfl) (litfill (by simp [Instr.fill,Value.cells]; rfl) (by simp)) rfl⟩ ?_
  refine yS (.agg [vs (⟨#[97]⟩:ByteArray),vs (⟨#[98]⟩:ByteArray),vi 9,vs (⟨#[117]⟩:ByteArray),vs (⟨#[115]⟩:ByteArray),vi 9000,vb false]) 1 ⟨op_build _ _ _ _ [2,1,1,1,1,1] _ _ underlying24 zr24 (fs24 _ underlying24) (.copy _ (.copy _ (.copy _ (.copy _ (.copy _ Src.nil))))) rfl rfl rfl⟩ ?_
  refine yee [0] ?_
  refine ht_ret ?_
  obtain rfl:=zi h
  exact pt_ret hio rfl (.cellA _ _ _ _ underlying24 rfl sz24 .nil) rfl rfl
theorem ok_gate_New (challenge:ByteArray) (r:T_Gate) (h:Sh.gate_New challenge=some r):FnOK Tryz.prog 22 [.v (.string challenge)] (.agg [.v (.int .i64 r.Phase), .v (.string r.Helo), .v (.bool r.From.Null), .v (.string r.From.Local), .v (.string r.From.Domain), .fl (.own 26) 3 (flatten (map T_Path.enc r.To)), .v (.bool r.Quiet), .fl (.own 5) 1 (map (int .u8) r.Buf), .v (.string r.Challenge), .v (.bool r.Proved)]):=by
  unfold Sh.gate_New at h
  refine yO 5 func22 fun g0 hn hio => ?_
  refine yxx hn 0 ?_
  refine yS (.box 30 [vi 0,vs z0,vb false,vs z0,vs z0,vz,vb false,vz,vs z0,vb false]) 0 ⟨oA (op_alloc _ _ zr30)⟩ ?_
  refine yee [0,2] ?_
  refine yxx hn 1 ?_
  refine yS (.agg [vi 0,vs z0,vb false,vs z0,vs z0,vz,vb false,vz,vs challenge,vb false]) 1 ⟨op_build _ _ _ _ [1,1,3,1,1,1,1,1] _ _ underlying30 zr30 (fs30 _ underlying30) (.copy _ (.copy _ Src.nil)) rfl rfl rfl⟩ ?_
  refine yee [2] ?_
  refine ht_ret ?_
  refine pt_sub (fs:=[(2,.box 30 [vi 0,vs z0,vb false,vs z0,vs z0,.fl (.own 26) 3 (flatten (map T_Path.enc [])),vb false,.fl (.own 5) 1 (map (int .u8) []),vs challenge,vb false])]) (.box _ _ (subs_cons (sub_refl _) (subs_cons (sub_refl _) (subs_cons (sub_refl _) (subs_cons (sub_refl _) (subs_cons (sub_refl _) (subs_cons (sub_nil 26 3) (subs_cons (sub_refl _) (subs_cons (sub_nil 5 1) (subs_cons (sub_refl _) (subs_cons (sub_refl _) (subs_nil))))))))))) rfl .nil) ?_
  obtain rfl:=zi h
  exact pt_ret hio rfl (.cellA _ _ _ _ underlying30 rfl sz30 .nil) rfl rfl
theorem ok_strings_splitSeq (s:ByteArray) (sep:ByteArray) (sepSave:Int) (r:(ByteArray×ByteArray×Int)) (h:Sh.strings_splitSeq s sep sepSave=some r):FnOK Tryz.prog 93 [.v (.string s), .v (.string sep), .v (.int .i64 sepSave)] (.cloB 119 [.box 9 [.v (.string r.1)], .box 9 [.v (.string r.2.1)], .box 3 [.v (.int .i64 r.2.2)]]):=by
  unfold Sh.strings_splitSeq at h
  refine yO 8 func93 fun g0 hn hio => ?_
  refine yyy hn 4 [3,4,5] ?_
  refine yxx hn 0 ?_
  refine yk [4,3,5] [] ?_
  refine yt (7,.cloB 119 [.box 9 [vs sep],.box 9 [vs s],.box 3 [vi sepSave]]) 0 ⟨op_mkclo _ _ [4,3,5] [.box 9 [vs sep],.box 9 [vs s],.box 3 [vi sepSave]] rfl rfl rfl⟩ ?_
  refine ya 0 ?_
  refine yee [6] ?_
  refine ht_ret ?_
  obtain rfl:=zi h
  exact pt_ret hio rfl (.tmp _ _ .nil) rfl rfl
theorem ok_strings_SplitSeq (s:ByteArray) (sep:ByteArray) (r:(ByteArray×ByteArray×Int)) (h:Sh.strings_SplitSeq s sep=some r):FnOK Tryz.prog 80 [.v (.string s), .v (.string sep)] (.cloB 119 [.box 9 [.v (.string r.1)], .box 9 [.v (.string r.2.1)], .box 3 [.v (.int .i64 r.2.2)]]):=by
  unfold Sh.strings_SplitSeq at h
  refine yO 8 func80 fun g0 hn hio => ?_
  refine yyy hn 1 [0,1] ?_
  refine ht_seq ?_
  obtain ⟨v1, hv1, h⟩:=zn h
  refine yx hn 2 ?_
  refine yk [] [5,6] ?_
  refine yt (7,.cloB 119 [.box 9 [vs v1.1],.box 9 [vs v1.2.1],.box 3 [vi v1.2.2]]) 0 ⟨op_callS _ _ 93 _ _ rfl call93 rfl rfl (ok_strings_splitSeq s sep 0 _ hv1) rfl⟩ ?_
  refine ya 0 ?_
  refine yee [4] ?_
  refine ht_ret ?_
  obtain rfl:=zi h
  exact pt_ret hio rfl (.tmp _ _ .nil) rfl rfl
theorem ok_unicode_utf8_decodeRuneInStringSlow (mx:Int×Nat×Value) (s:ByteArray) (r:(Int×Int)) (h:Sh.unicode_utf8_decodeRuneInStringSlow s=some r):FnG Tryz.prog (GL mx) 142 [.v (.string s)] (.tup [.v (.int .i32 r.1), .v (.int .i64 r.2)]):=by
  unfold Sh.unicode_utf8_decodeRuneInStringSlow at h
  refine yG 117 func142 fun g0 hn hio => ?_
  refine yyy hn 2 [0,117] ?_
  refine yyy hn 3 [0,117,4] ?_
  refine ht_seq ?_
  refine yyy hn 2 [0,117,4,16] ?_
  refine ht_cond _ rfl (fun hb1 => ?_) (fun hb1 => ?_)
  ·have h:=cond_t hb1 h
   refine yyy hn 2 [117,2,3] ?_
   refine ht_ret ?_
   refine pt_pick [1,2] (by kernel_rfl) (es':=[(_,_),(_,_)]) rfl ?_
   refine pt_r_then ?_
   obtain rfl:=zi h
   exact pt_ret hio rfl (.tmp _ _ (.tmp _ _ .nil)) rfl rfl
  ·have h:=cond_f hb1 h
   refine ht_skip ?_
   refine pt_then (ht_seq ?_)
   obtain ⟨v2, hv2, h⟩:=zn h
   refine yx hn 1 ?_
   refine ys 1 ⟨lh hv2⟩ ?_
   refine yee [0,117,4,5] ?_
   refine ht_seq ?_
   obtain ⟨v3, hv3, h⟩:=zn h
   obtain ⟨v4, hv4, h⟩:=zn h
   refine yx hn 1 ?_
   refine yS (.v (.pointer (some ⟨1,(0+v3 * 1),none⟩))) 0 ⟨op_ix_globz _ _ _ _ 256 1 0 _ 1 _ underlying184 sz5 rfl rfl (ix_ok hv3).1 (ix_ok hv3).2⟩ ?_
   refine yS (.v (.int .u8 v4)) 1 ⟨op_load_glob _ _ 117 1 _ _ _ underlying5 rfl rfl rfl (gl_mem1 mx) (map_get1 hv4)⟩ ?_
   refine yee [0,117,4,5,6] ?_
   refine ht_seq ?_
   refine yyy hn 2 [0,117,4,5,6,23] ?_
   refine ht_cond _ rfl (fun hb5 => ?_) (fun hb5 => ?_)
   ·have h:=cond_t hb5 h
    refine ht_seq ?_
    obtain ⟨v6, hv6, h⟩:=zn h
    obtain ⟨v7, hv7, h⟩:=zn h
    obtain ⟨v8, hv8, h⟩:=zn h
    refine yx hn 1 ?_
    refine ys 0 ⟨lv hv6⟩ ?_
    refine ys 0 ⟨lB (shl_ok hv7)⟩ ?_
    refine ys 1 ⟨lB (shr_ok hv8)⟩ ?_
    refine yee [0,117,7] ?_
    refine ht_seq ?_
    obtain ⟨v9, hv9, h⟩:=zn h
    obtain ⟨v10, hv10, h⟩:=zn h
    obtain ⟨v11, hv11, h⟩:=zn h
    obtain ⟨v12, hv12, h⟩:=zn h
    obtain ⟨v13, hv13, h⟩:=zn h
    refine yx hn 1 ?_
    refine ys 0 ⟨lh hv9⟩ ?_
    refine ys 1 ⟨lv hv10⟩ ?_
    refine ys 1 ⟨lb hv11⟩ ?_
    refine ys 0 ⟨lb hv12⟩ ?_
    refine ys 2 ⟨lb hv13⟩ ?_
    refine yee [117,2,3] ?_
    refine ht_ret ?_
    refine pt_pick [1,2] (by kernel_rfl) (es':=[(_,_),(_,_)]) rfl ?_
    refine pt_r_then ?_
    obtain rfl:=zi h
    exact pt_ret hio rfl (.tmp _ _ (.tmp _ _ .nil)) rfl rfl
   ·have h:=cond_f hb5 h
    cases h
theorem ok_unicode_utf8_DecodeRuneInString (mx:Int×Nat×Value) (s:ByteArray) (r:(Int×Int)) (h:Sh.unicode_utf8_DecodeRuneInString s=some r):FnG Tryz.prog (GL mx) 120 [.v (.string s)] (.tup [.v (.int .i32 r.1), .v (.int .i64 r.2)]):=by
  unfold Sh.unicode_utf8_DecodeRuneInString at h
  refine yG 19 func120 fun g0 hn hio => ?_
  refine yyy hn 2 [0,19] ?_
  refine ht_seq ?_
  refine ht_seq ?_
  refine ht_joinS h (fun (s2:Bool)=>[(0,vs s),(19,.glob (GL mx)),(10,vb s2)]) ?_ ?_
  ·rintro s2 h
   refine pt_then ?_
   refine ht_cond _ rfl (fun hb6 => ?_) (fun hb6 => ?_)
   ·have h:=cond_t hb6 h
    refine ht_seq ?_
    obtain ⟨v7, hv7, h⟩:=zn h
    obtain ⟨v8, hv8, h⟩:=zn h
    refine yx hn 1 ?_
    refine ys 0 ⟨lh hv7⟩ ?_
    refine ys 2 ⟨lv hv8⟩ ?_
    refine yee [19,2,3] ?_
    refine ht_ret ?_
    refine pt_pick [1,2] (by kernel_rfl) (es':=[(_,_),(_,_)]) rfl ?_
    refine pt_r_then ?_
    obtain rfl:=zi h
    exact pt_ret hio rfl (.tmp _ _ (.tmp _ _ .nil)) rfl rfl
   ·have h:=cond_f hb6 h
    obtain ⟨v9, hv9, h⟩:=zn h
    refine yx hn 1 ?_
    refine ys 0 ⟨lg call142 (ok_unicode_utf8_decodeRuneInStringSlow _ _ _ hv9) 19⟩ ?_
    refine ym 4 ?_
    refine yee [19,2,3] ?_
    refine ht_ret ?_
    refine pt_pick [1,2] (by kernel_rfl) (es':=[(_,_),(_,_)]) rfl ?_
    obtain rfl:=zi h
    exact pt_ret hio rfl (.tmp _ _ (.tmp _ _ .nil)) rfl rfl
  ·intro u3 h hl4 hr5
   refine cond_some h (fun hg1_2 h => ?_) (fun hg1_2 h => ?_)
   ·obtain ⟨v1, hv1, h⟩:=zn h
    refine yx hn 3 ?_
    refine yd hg1_2 1 ?_
    refine ys 2 ⟨lh hv1⟩ ?_
    refine ye [0,19,10] ?_
    exact hl4 _ (zi h).symm
   ·refine yx hn 3 ?_
    refine yd hg1_2 4 ?_
    refine ye [0,19,10] ?_
    exact hl4 _ (zi h).symm
theorem ok_strings_Index (s sub:ByteArray) (r:Int) (h:Sh.strings_Index s sub=some r):FnOK Tryz.prog 121 [.v (.string s), .v (.string sub)] (.v (.int .i64 r)):=lib_strings_Index Tryz.strings_Index_one s sub r h
theorem ok_strings_splitSeq_1 (mx:Int×Nat×Value) (l:Nat) {S:Type} (J:S→InvT) (Y:ByteArray→S→Option (S×Bool)) (hY:YieldOK Tryz.prog l (fun x => .v (.string x)) Y J) (c0:ByteArray) (c1:ByteArray) (c2:Int) (st r:S) (h:Sh.strings_splitSeq_1 Y c0 c1 c2 st=some r):FnI Tryz.prog (GL mx) 119 l [.box 9 [.v (.string c0)], .box 9 [.v (.string c1)], .box 3 [.v (.int .i64 c2)]] (J st) (J r):=by
  unfold Sh.strings_splitSeq_1 at h
  refine yI 52 func119 fun g0 hn hio => ?_
  refine ht_seq ?_
  refine yyy hn 3 [0,1,2,3,52,53,11] ?_
  refine ht_cond _ rfl (fun hb1 => ?_) (fun hb1 => ?_)
  ·have h:=cond_t hb1 h
   refine ht_seq ?_
   refine ht_pick [0,2,4,5] (by kernel_rfl) (es':=[(_,_),(_,_),(_,_),(_,_)]) rfl ?_
   refine ht_loopS h (fun ((s12,s13):ByteArray×S)=>[(0,.v (.func (.yield l) #[] #[])),(2,.box 9 [vs s12]),(52,.glob (GL mx)),(53,.inv (J s13))]) (fun (s16:S)=>[(52,.glob (GL mx)),(53,.inv (J s16))]) ?_ ?_
   ·rintro s16 h
    refine pt_then (ht_ret ?_)
    refine pt_pick [1] (by kernel_rfl) (es':=[(53,.inv (J s16))]) rfl ?_
    refine pt_r_then ?_
    obtain rfl:=zi h
    exact pt_retI hio rfl rfl rfl
   ·rintro u17 hl18 hr19 ⟨s12, s13⟩ rr22 h ho20
    refine ht_seq ?_
    refine yyy hn 3 [0,2,52,53,14] ?_
    refine ht_cond _ rfl (fun hb23 => ?_) (fun hb23 => ?_)
    ·have h:=cond_t hb23 h
     refine ht_skip ?_
     refine pt_then ?_
     refine ht_block ?_
     refine ht_seq ?_
     obtain ⟨v3, hv3, h⟩:=zn h
     refine yx hn 1 ?_
     refine ys 0 ⟨lg call120 (ok_unicode_utf8_DecodeRuneInString _ _ _ hv3) 52⟩ ?_
     refine ym 4 ?_
     refine yee [0,2,52,53,6] ?_
     refine ht_seq ?_
     refine ht_seq ?_
     obtain ⟨v4, hv4, h⟩:=zn h
     obtain ⟨v5, hv5, h⟩:=zn h
     refine yx hn 3 ?_
     refine yS (vs v4) 0 ⟨op_substr _ _ _ 0 v3.2 _ underlying9 rfl rfl ⟨_,rfl⟩ hv4⟩ ?_
     refine yk [53] [23,20] ?_
     refine ytt (53,.inv (J v5.1)) (24,vb v5.2) 1 ⟨op_yield _ _ 53 l v4 s13 v5 hY hv5 rfl rfl rfl⟩ ?_
     refine yee [0,2,52,53,6,25] ?_
     refine ht_cond _ rfl (fun hb24 => ?_) (fun hb24 => ?_)
     ·have h:=cond_t hb24 h
      refine ht_ret ?_
      refine pt_pick [3] (by kernel_rfl) (es':=[(53,.inv (J v5.1))]) rfl ?_
      refine pt_r_then ?_
      refine pt_r_in ?_
      refine pt_r_then ?_
      refine pt_r_in ?_
      refine pt_r_then ?_
      refine pt_r_then ?_
      have h:=hr19 _ (ho20 _ (zi h).symm).symm
      obtain rfl:=zi h
      exact pt_retI hio rfl rfl rfl
     ·have h:=cond_f hb24 h
      refine ht_skip ?_
      refine pt_then ?_
      obtain ⟨v7, hv7, h⟩:=zn h
      refine yx hn 2 ?_
      refine yS (vs v7) 1 ⟨op_substr _ _ _ v3.2 (s12.size:Int) _ underlying9 rfl ⟨_,rfl⟩ rfl hv7⟩ ?_
      refine ye [0,2,52,53] ?_
      refine pt_inb ?_
      exact pt_next _ (zi h).symm rfl
    ·have h:=cond_f hb23 h
     refine ht_exit ?_
     refine pt_x_then ?_
     refine pt_x_then ?_
     refine pt_x_in ?_
     refine pt_pick [2,3] (by kernel_rfl) (es':=[(_,_),(_,_)]) rfl ?_
     exact hl18 _ (ho20 _ (zi h).symm).symm
  ·have h:=cond_f hb1 h
   refine ht_skip ?_
   refine pt_then (ht_seq ?_)
   refine ht_pick [0,1,2,3,4,5] (by kernel_rfl) (es':=[(_,_),(_,_),(_,_),(_,_),(_,_),(_,_)]) rfl ?_
   refine ht_loopS h (fun ((s37,s38):ByteArray×S)=>[(0,.v (.func (.yield l) #[] #[])),(1,.box 9 [vs c0]),(2,.box 9 [vs s37]),(3,.box 3 [vi c2]),(52,.glob (GL mx)),(53,.inv (J s38))]) (fun ((s41,s42):ByteArray×S)=>[(0,.v (.func (.yield l) #[] #[])),(2,.box 9 [vs s41]),(52,.glob (GL mx)),(53,.inv (J s42))]) ?_ ?_
   ·rintro ⟨s41, s42⟩ h
    refine pt_then ?_
    obtain ⟨v51, hv51, h⟩:=zn h
    refine yx hn 2 ?_
    refine yk [53] [50,49] ?_
    refine ytt (53,.inv (J v51.1)) (51,vb v51.2) 0 ⟨op_yield _ _ 53 l s41 s42 v51 hY hv51 rfl rfl rfl⟩ ?_
    refine ye [52,53] ?_
    refine pt_pick [1] (by kernel_rfl) (es':=[(53,.inv (J v51.1))]) rfl ?_
    obtain rfl:=zi h
    exact pt_endI hio rfl rfl rfl
   ·rintro u43 hl44 hr45 ⟨s37, s38⟩ rr48 h ho46
    refine ht_block ?_
    refine ht_seq ?_
    obtain ⟨v25, hv25, h⟩:=zn h
    refine yx hn 2 ?_
    refine ys 1 ⟨lk call121 (ok_strings_Index _ _ _ hv25)⟩ ?_
    refine yee [0,1,2,3,52,53,7] ?_
    refine ht_seq ?_
    refine yyy hn 2 [0,1,2,3,52,53,7,33] ?_
    refine ht_cond _ rfl (fun hb49 => ?_) (fun hb49 => ?_)
    ·have h:=cond_t hb49 h
     refine ht_exit ?_
     refine pt_x_then ?_
     refine pt_x_out (by decide) ?_
     refine pt_x_then ?_
     refine pt_x_in ?_
     refine pt_pick [0,2,4,5] (by kernel_rfl) (es':=[(_,_),(_,_),(_,_),(_,_)]) rfl ?_
     exact hl44 _ (ho46 _ (zi h).symm).symm
    ·have h:=cond_f hb49 h
     refine ht_skip ?_
     refine pt_then (ht_seq ?_)
     obtain ⟨v27, hv27, h⟩:=zn h
     obtain ⟨v28, hv28, h⟩:=zn h
     refine yx hn 3 ?_
     refine ys 0 ⟨lb hv27⟩ ?_
     refine yS (vs v28) 1 ⟨op_substr _ _ _ 0 v27 _ underlying9 rfl rfl ⟨_,rfl⟩ hv28⟩ ?_
     refine yee [0,1,2,3,52,53,7,8] ?_
     refine ht_seq ?_
     refine ht_seq ?_
     obtain ⟨v29, hv29, h⟩:=zn h
     refine yx hn 2 ?_
     refine yk [53] [40,39] ?_
     refine ytt (53,.inv (J v29.1)) (41,vb v29.2) 1 ⟨op_yield _ _ 53 l v28 s38 v29 hY hv29 rfl rfl rfl⟩ ?_
     refine yee [0,1,2,3,52,53,7,42] ?_
     refine ht_cond _ rfl (fun hb50 => ?_) (fun hb50 => ?_)
     ·have h:=cond_t hb50 h
      refine ht_ret ?_
      refine pt_pick [5] (by kernel_rfl) (es':=[(53,.inv (J v29.1))]) rfl ?_
      refine pt_r_then ?_
      refine pt_r_in ?_
      refine pt_r_then ?_
      refine pt_r_in ?_
      refine pt_r_then ?_
      have h:=hr45 _ (ho46 _ (zi h).symm).symm
      obtain rfl:=zi h
      exact pt_retI hio rfl rfl rfl
     ·have h:=cond_f hb50 h
      refine ht_skip ?_
      refine pt_then ?_
      obtain ⟨v31, hv31, h⟩:=zn h
      obtain ⟨v32, hv32, h⟩:=zn h
      refine yx hn 4 ?_
      refine ys 0 ⟨lb hv31⟩ ?_
      refine yS (vs v32) 1 ⟨op_substr _ _ _ v31 (s37.size:Int) _ underlying9 rfl ⟨_,rfl⟩ rfl hv32⟩ ?_
      refine ye [0,1,2,3,52,53] ?_
      refine pt_inb ?_
      exact pt_next _ (zi h).symm rfl
theorem ok_path_alphanumeric (c:Int) (r:Bool) (h:Sh.path_alphanumeric c=some r):FnOK Tryz.prog 83 [.v (.int .u8 c)] (.v (.bool r)):=by
  unfold Sh.path_alphanumeric at h
  refine yO 25 func83 fun g0 hn hio => ?_
  refine yyy hn 1 [0] ?_
  refine ht_seq ?_
  refine ht_joinS h (fun (s1:Bool)=>[(2,vb s1)]) ?_ ?_
  ·rintro s1 h
   refine pt_then (ht_ret ?_)
   obtain rfl:=zi h
   exact pt_ret hio rfl (.tmp _ _ .nil) rfl rfl
  ·intro u2 h hl3 hr4
   refine cond_some h (fun hg1_2 h => ?_) (fun hg1_2 h => ?_)
   ·refine cond_some h (fun hg1_6 h => ?_) (fun hg1_6 h => ?_)
    ·refine yx hn 3 ?_
     refine yd hg1_2 4 ?_
     refine yd hg1_6 16 ?_
     refine ye [2] ?_
     exact hl3 _ (zi h).symm
    ·refine cond_some h (fun hg1_9 h => ?_) (fun hg1_9 h => ?_)
     ·refine cond_some h (fun hg1_14 h => ?_) (fun hg1_14 h => ?_)
      ·refine yx hn 3 ?_
       refine yd hg1_2 4 ?_
       refine yd hg1_6 3 ?_
       refine yd hg1_9 5 ?_
       refine yd hg1_14 8 ?_
       refine ye [2] ?_
       exact hl3 _ (zi h).symm
      ·refine cond_some h (fun hg1_17 h => ?_) (fun hg1_17 h => ?_)
       ·refine yx hn 3 ?_
        refine yd hg1_2 4 ?_
        refine yd hg1_6 3 ?_
        refine yd hg1_9 5 ?_
        refine yd hg1_14 3 ?_
        refine yd hg1_17 5 ?_
        refine ye [2] ?_
        exact hl3 _ (zi h).symm
       ·refine yx hn 3 ?_
        refine yd hg1_2 4 ?_
        refine yd hg1_6 3 ?_
        refine yd hg1_9 5 ?_
        refine yd hg1_14 3 ?_
        refine yd hg1_17 5 ?_
        refine ye [2] ?_
        exact hl3 _ (zi h).symm
     ·refine cond_some h (fun hg1_17 h => ?_) (fun hg1_17 h => ?_)
      ·refine yx hn 3 ?_
       refine yd hg1_2 4 ?_
       refine yd hg1_6 3 ?_
       refine yd hg1_9 8 ?_
       refine yd hg1_17 5 ?_
       refine ye [2] ?_
       exact hl3 _ (zi h).symm
      ·refine yx hn 3 ?_
       refine yd hg1_2 4 ?_
       refine yd hg1_6 3 ?_
       refine yd hg1_9 8 ?_
       refine yd hg1_17 5 ?_
       refine ye [2] ?_
       exact hl3 _ (zi h).symm
   ·refine cond_some h (fun hg1_9 h => ?_) (fun hg1_9 h => ?_)
    ·refine cond_some h (fun hg1_14 h => ?_) (fun hg1_14 h => ?_)
     ·refine yx hn 3 ?_
      refine yd hg1_2 7 ?_
      refine yd hg1_9 5 ?_
      refine yd hg1_14 8 ?_
      refine ye [2] ?_
      exact hl3 _ (zi h).symm
     ·refine cond_some h (fun hg1_17 h => ?_) (fun hg1_17 h => ?_)
      ·refine yx hn 3 ?_
       refine yd hg1_2 7 ?_
       refine yd hg1_9 5 ?_
       refine yd hg1_14 3 ?_
       refine yd hg1_17 5 ?_
       refine ye [2] ?_
       exact hl3 _ (zi h).symm
      ·refine yx hn 3 ?_
       refine yd hg1_2 7 ?_
       refine yd hg1_9 5 ?_
       refine yd hg1_14 3 ?_
       refine yd hg1_17 5 ?_
       refine ye [2] ?_
       exact hl3 _ (zi h).symm
    ·refine cond_some h (fun hg1_17 h => ?_) (fun hg1_17 h => ?_)
     ·refine yx hn 3 ?_
      refine yd hg1_2 7 ?_
      refine yd hg1_9 8 ?_
      refine yd hg1_17 5 ?_
      refine ye [2] ?_
      exact hl3 _ (zi h).symm
     ·refine yx hn 3 ?_
      refine yd hg1_2 7 ?_
      refine yd hg1_9 8 ?_
      refine yd hg1_17 5 ?_
      refine ye [2] ?_
      exact hl3 _ (zi h).symm
theorem ok_path_label_1 (c:Int) (r:Bool) (h:Sh.path_label_1 c=some r):FnOK Tryz.prog 82 [.v (.int .u8 c)] (.v (.bool r)):=by
  unfold Sh.path_label_1 at h
  refine yO 9 func82 fun g0 hn hio => ?_
  refine yyy hn 1 [0] ?_
  refine ht_seq ?_
  refine ht_joinS h (fun (s2:Bool)=>[(2,vb s2)]) ?_ ?_
  ·rintro s2 h
   refine pt_then (ht_ret ?_)
   obtain rfl:=zi h
   exact pt_ret hio rfl (.tmp _ _ .nil) rfl rfl
  ·intro u3 h hl4 hr5
   obtain ⟨v1, hv1, h⟩:=zn h
   refine cond_some h (fun hg1_2 h => ?_) (fun hg1_2 h => ?_)
   ·refine yx hn 1 ?_
    refine ys 1 ⟨lk call83 (ok_path_alphanumeric _ _ hv1)⟩ ?_
    refine yd hg1_2 4 ?_
    refine ye [2] ?_
    exact hl4 _ (zi h).symm
   ·refine yx hn 1 ?_
    refine ys 1 ⟨lk call83 (ok_path_alphanumeric _ _ hv1)⟩ ?_
    refine yd hg1_2 4 ?_
    refine ye [2] ?_
    exact hl4 _ (zi h).symm
theorem ok_path_all_of_path_label_1 (s:ByteArray) (r:Bool) (h:Sh.path_all_of_path_label_1 s=some r):FnOK Tryz.prog 81 [.v (.string s), .v (.func (.func 82) #[] #[])] (.v (.bool r)):=by
  unfold Sh.path_all_of_path_label_1 at h
  refine yO 18 func81 fun g0 hn hio => ?_
  refine yyy hn 1 [0,1] ?_
  refine ht_seq ?_
  refine yyy hn 3 [0,1,7,8] ?_
  refine ht_loopS h (fun (s9:Int)=>[(0,vs s),(1,.v (.func (.func 82) #[] #[])),(7,vi (s.size:Int)),(8,vi s9)]) (fun (():Unit)=>[]) ?_ ?_
  ·rintro ⟨⟩ h
   refine pt_then ?_
   refine yyy hn 1 [4] ?_
   refine ht_ret ?_
   obtain rfl:=zi h
   exact pt_ret hio rfl (.tmp _ _ .nil) rfl rfl
  ·rintro u12 hl13 hr14 s9 rr17 h ho15
   refine yyy hn 1 [0,1,7,8,9] ?_
   refine ht_seq ?_
   refine ht_cond _ rfl (fun hb18 => ?_) (fun hb18 => ?_)
   ·have h:=cond_t hb18 h
    refine ht_skip ?_
    refine pt_then (ht_seq ?_)
    refine ht_block ?_
    refine yyy hn 2 [0,1,7,8,5] ?_
    refine ht_seq ?_
    obtain ⟨v2, hv2, h⟩:=zn h
    obtain ⟨v3, hv3, h⟩:=zn h
    refine yx hn 3 ?_
    refine ys 0 ⟨lh hv2⟩ ?_
    refine ys 1 ⟨lk call82 (ok_path_label_1 _ _ hv3)⟩ ?_
    refine yee [0,1,7,8,16] ?_
    refine ht_cond _ rfl (fun hb19 => ?_) (fun hb19 => ?_)
    ·have h:=cond_t hb19 h
     refine yyy hn 1 [4] ?_
     refine ht_ret ?_
     refine pt_r_in ?_
     refine pt_r_then ?_
     refine pt_r_then ?_
     refine pt_r_in ?_
     refine pt_r_then ?_
     have h:=hr14 _ (ho15 _ (zi h).symm).symm
     obtain rfl:=zi h
     exact pt_ret hio rfl (.tmp _ _ .nil) rfl rfl
    ·have h:=cond_f hb19 h
     refine ht_skip ?_
     refine pt_inb ?_
     refine pt_then ?_
     obtain ⟨v5, hv5, h⟩:=zn h
     refine yx hn 0 ?_
     refine ys 0 ⟨lb hv5⟩ ?_
     refine yw [8] 1 ?_
     refine ye [0,1,7,8] ?_
     exact pt_next _ (zi h).symm rfl
   ·have h:=cond_f hb18 h
    refine ht_exit ?_
    refine pt_x_then ?_
    refine pt_x_then ?_
    refine pt_x_in ?_
    refine pt_pick [] (by kernel_rfl) (es':=[]) rfl ?_
    exact hl13 _ (ho15 _ (zi h).symm).symm
theorem ok_path_label (s:ByteArray) (r:Bool) (h:Sh.path_label s=some r):FnOK Tryz.prog 70 [.v (.string s)] (.v (.bool r)):=by
  unfold Sh.path_label at h
  refine yO 27 func70 fun g0 hn hio => ?_
  refine yyy hn 1 [0] ?_
  refine ht_seq ?_
  refine ht_joinS h (fun (s5:Bool)=>[(2,vb s5)]) ?_ ?_
  ·rintro s5 h
   refine pt_then (ht_ret ?_)
   obtain rfl:=zi h
   exact pt_ret hio rfl (.tmp _ _ .nil) rfl rfl
  ·intro u6 h hl7 hr8
   refine cond_some h (fun hg1_2 h => ?_) (fun hg1_2 h => ?_)
   ·refine cond_some h (fun hg1_7 h => ?_) (fun hg1_7 h => ?_)
    ·obtain ⟨v1, hv1, h⟩:=zn h
     refine cond_some h (fun hg1_12 h => ?_) (fun hg1_12 h => ?_)
     ·obtain ⟨v2, hv2, h⟩:=zn h
      obtain ⟨v3, hv3, h⟩:=zn h
      refine cond_some h (fun hg1_20 h => ?_) (fun hg1_20 h => ?_)
      ·obtain ⟨v4, hv4, h⟩:=zn h
       refine yx hn 3 ?_
       refine yd hg1_2 5 ?_
       refine yd hg1_7 1 ?_
       refine ys 3 ⟨lh hv1⟩ ?_
       refine yd hg1_12 3 ?_
       refine ys 0 ⟨lb hv2⟩ ?_
       refine ys 3 ⟨lh hv3⟩ ?_
       refine yd hg1_20 1 ?_
       refine ys 2 ⟨lk call81 (ok_path_all_of_path_label_1 _ _ hv4)⟩ ?_
       refine ye [2] ?_
       exact hl7 _ (zi h).symm
      ·refine yx hn 3 ?_
       refine yd hg1_2 5 ?_
       refine yd hg1_7 1 ?_
       refine ys 3 ⟨lh hv1⟩ ?_
       refine yd hg1_12 3 ?_
       refine ys 0 ⟨lb hv2⟩ ?_
       refine ys 3 ⟨lh hv3⟩ ?_
       refine yd hg1_20 4 ?_
       refine ye [2] ?_
       exact hl7 _ (zi h).symm
     ·refine yx hn 3 ?_
      refine yd hg1_2 5 ?_
      refine yd hg1_7 1 ?_
      refine ys 3 ⟨lh hv1⟩ ?_
      refine yd hg1_12 12 ?_
      refine ye [2] ?_
      exact hl7 _ (zi h).symm
    ·refine yx hn 3 ?_
     refine yd hg1_2 5 ?_
     refine yd hg1_7 17 ?_
     refine ye [2] ?_
     exact hl7 _ (zi h).symm
   ·refine yx hn 3 ?_
    refine yd hg1_2 22 ?_
    refine ye [2] ?_
    exact hl7 _ (zi h).symm
theorem ok_path_dotted_of_path_label (mx:Int×Nat×Value) (s:ByteArray) (r:Bool) (h:Sh.path_dotted_of_path_label s=some r):FnG Tryz.prog (GL mx) 69 [.v (.string s), .v (.func (.func 70) #[] #[])] (.v (.bool r)):=by
  unfold Sh.path_dotted_of_path_label at h
  refine yG 13 func69 fun g0 hn hio => ?_
  refine yxx hn 1 ?_
  refine yS (.box 4 [vb false]) 0 ⟨oA (op_alloc _ _ zr4)⟩ ?_
  refine yee [0,13,3,4] ?_
  refine ht_seq ?_
  refine ht_seq ?_
  obtain ⟨v1, hv1, h⟩:=zn h
  refine yx hn 1 ?_
  refine yk [] [6] ?_
  refine yt (7,.cloB 119 [.box 9 [vs v1.1],.box 9 [vs v1.2.1],.box 3 [vi v1.2.2]]) 0 ⟨op_callS _ _ 80 _ _ rfl call80 rfl rfl (ok_strings_SplitSeq s (⟨#[46]⟩:ByteArray) _ hv1) rfl⟩ ?_
  refine yee [13,3,4,7] ?_
  refine ht_block ?_
  refine ht_pick [3,0,1,2] (by kernel_rfl) (es':=[(7,.cloB 119 [.box 9 [vs v1.1],.box 9 [vs v1.2.1],.box 3 [vi v1.2.2]]),(13,.glob (GL mx)),(3,.box 65 [.v (.func (.func 70) #[] #[])]),(4,.box 4 [vb false])]) rfl ?_
  refine ht_rangeF h 119 7 8 14 _ [13, 3, 4] call119 (fun (():Unit)=>[(13, .glob (GL mx)), (3, .box 65 [.v (.func (.func 70) #[] #[])]), (4, .box 4 [.v (.bool false)])]) (fun (():Unit)=>[(13, .glob (GL mx)), (3, .box 65 [.v (.func (.func 70) #[] #[])]), (4, .box 4 [.v (.bool false)])]) (fun l J Y hY t t' h=>ok_strings_splitSeq_1 mx l J Y hY v1.1 v1.2.1 v1.2.2 t t' h) hn rfl (fun _=>rfl) (fun _=>rfl) (fun _=>rfl) rfl rfl (fun _=>⟨rfl, rfl⟩) rfl (glIn_look 13 rfl) ?_ ?_ ?_
  ·rintro kk g0 hn hio x ⟨⟩ u h
   refine ht_es (es':=[(8,vs x),(13,.glob (GL mx)),(3,.box 65 [.v (.func (.func 70) #[] #[])]),(4,.box 4 [vb false]),(13,.v (kk.tm.getD 13 undef)),(3,.v (kk.tm.getD 3 undef)),(4,.v (kk.tm.getD 4 undef)),(14,.inv kk.ready)]) rfl ?_
   refine yy hn 1 [13,3,4,14,5,13,3,4] ?_
   refine pt_pick [0,1,2,4,5,6,7,3] (by kernel_rfl) (es':=[(13,.glob (GL mx)),(3,.box 65 [.v (.func (.func 70) #[] #[])]),(4,.box 4 [vb false]),(5,vs x),(13,.v (kk.tm.getD 13 undef)),(3,.v (kk.tm.getD 3 undef)),(4,.v (kk.tm.getD 4 undef)),(14,.inv kk.ready)]) rfl ?_
   refine pt_begin (es:=[(13,.glob (GL mx)),(3,.box 65 [.v (.func (.func 70) #[] #[])]),(4,.box 4 [vb false]),(5,vs x),(13,.v (kk.tm.getD 13 undef)),(3,.v (kk.tm.getD 3 undef)),(4,.v (kk.tm.getD 4 undef))]) 14 rfl ?_
   refine ht_block ?_
   refine ht_seq ?_
   obtain ⟨v2, hv2, h⟩:=zn h
   refine yx hn 2 ?_
   refine ys 1 ⟨lk call70 (ok_path_label _ _ hv2)⟩ ?_
   refine yee [13,3,4,14,12,13,3,4] ?_
   refine ht_cond _ rfl (fun hb5 => ?_) (fun hb5 => ?_)
   ·have h:=cond_t hb5 h
    refine yyy hn 1 [13,3,4,14,13,3,4] ?_
    refine ht_ret ?_
    refine pt_r_in ?_
    refine pt_pick [0,1,2,4,5,6,3] (by kernel_rfl) (es':=[(_,_),(_,_),(_,_),(_,_),(_,_),(_,_),(_,_)]) rfl ?_
    obtain rfl:=zi h
    exact pt_rret 14 [13, 3, 4] _ rfl rfl (by kernel_rfl)
   ·have h:=cond_f hb5 h
    refine ht_skip ?_
    refine pt_inb ?_
    refine pt_pick [0,1,2,5,6,7,3] (by kernel_rfl) (es':=[(_,_),(_,_),(_,_),(_,_),(_,_),(_,_),(_,_)]) rfl ?_
    obtain rfl:=zi h
    exact pt_rnext 14 [13, 3, 4] _ rfl rfl (by kernel_rfl)
  ·rintro D ⟨⟩ h
   refine pt_inb ?_
   refine pt_then ?_
   refine yyy hn 1 [13,4] ?_
   refine ht_ret ?_
   refine pt_pick [1] (by kernel_rfl) (es':=[(_,_)]) rfl ?_
   obtain rfl:=zi h
   exact pt_ret hio rfl (.cell1 _ _ _ _ underlying4 rfl .nil) rfl rfl
  ·rintro D ⟨⟩ h
   refine pt_pick [2] (by kernel_rfl) (es':=[(_,_)]) rfl ?_
   refine pt_r_in ?_
   refine pt_r_then ?_
   obtain rfl:=zi h
   exact pt_ret hio rfl (.cell1 _ _ _ _ underlying4 rfl .nil) rfl rfl
theorem ok_path_Domain (mx:Int×Nat×Value) (s:ByteArray) (r:Bool) (h:Sh.path_Domain s=some r):FnG Tryz.prog (GL mx) 55 [.v (.string s)] (.v (.bool r)):=by
  unfold Sh.path_Domain at h
  refine yG 10 func55 fun g0 hn hio => ?_
  refine yyy hn 1 [0,10] ?_
  refine ht_seq ?_
  refine ht_joinS h (fun (s2:Bool)=>[(10,.glob (GL mx)),(2,vb s2)]) ?_ ?_
  ·rintro s2 h
   refine pt_then (ht_ret ?_)
   refine pt_pick [1] (by kernel_rfl) (es':=[(_,_)]) rfl ?_
   obtain rfl:=zi h
   exact pt_ret hio rfl (.tmp _ _ .nil) rfl rfl
  ·intro u3 h hl4 hr5
   refine cond_some h (fun hg1_3 h => ?_) (fun hg1_3 h => ?_)
   ·obtain ⟨v1, hv1, h⟩:=zn h
    refine yx hn 4 ?_
    refine yd hg1_3 1 ?_
    refine ys 2 ⟨lg call69 (ok_path_dotted_of_path_label _ _ _ hv1) 10⟩ ?_
    refine ye [10,2] ?_
    exact hl4 _ (zi h).symm
   ·refine yx hn 4 ?_
    refine yd hg1_3 4 ?_
    refine ye [10,2] ?_
    exact hl4 _ (zi h).symm
theorem ok_path_Fold (s:ByteArray) (r:ByteArray) (h:Sh.path_Fold s=some r):FnOK Tryz.prog 71 [.v (.string s)] (.v (.string r)):=by
  unfold Sh.path_Fold at h
  refine yO 29 func71 fun g0 hn hio => ?_
  refine yyy hn 1 [0] ?_
  refine ht_seq ?_
  obtain ⟨v1, hv1, h⟩:=zn h
  refine yx hn 1 ?_
  refine ys 0 ⟨lU hv1⟩ ?_
  refine ya 0 ?_
  refine yee [3] ?_
  refine ht_seq ?_
  refine yxx hn 1 ?_
  refine yS (vi (v1.length:Int)) 1 ⟨op_len_mk _ _ _ underlying28 rfl (List.length_map _)⟩ ?_
  refine yee [3,8,9,10] ?_
  refine ht_loopS h (fun ((s40,s41):(List Int)×Int)=>[(3,.mkr 5 (map (int .u8) s40)),(8,.same (.slot 3)),(9,vi (v1.length:Int)),(10,vi s41)]) (fun (s57:(List Int))=>[(3,.mkr 5 (map (int .u8) s57))]) ?_ ?_
  ·rintro s57 h
   refine pt_then (ht_seq ?_)
   obtain ⟨v79, hv79, h⟩:=zn h
   refine yx hn 0 ?_
   refine ym 0 ?_
   refine ys 1 ⟨lM hv79⟩ ?_
   refine yee [2] ?_
   refine ht_ret ?_
   obtain rfl:=zi h
   exact pt_ret hio rfl (.tmp _ _ .nil) rfl rfl
  ·rintro u58 hl59 hr60 ⟨s40, s41⟩ rr63 h ho61
   refine yyy hn 1 [3,8,9,10,11] ?_
   refine ht_seq ?_
   refine ht_cond _ rfl (fun hb64 => ?_) (fun hb64 => ?_)
   ·have h:=cond_t hb64 h
    refine ht_skip ?_
    refine pt_then (ht_seq ?_)
    refine ht_joinS h (fun (s70:(List Int))=>[(3,.mkr 5 (map (int .u8) s70)),(8,.same (.slot 3)),(9,vi (v1.length:Int)),(10,vi s41)]) ?_ ?_
    ·rintro s70 h
     refine pt_then ?_
     obtain ⟨v22, hv22, h⟩:=zn h
     refine yx hn 0 ?_
     refine ys 0 ⟨lb hv22⟩ ?_
     refine yw [10] 1 ?_
     refine ye [3,8,9,10] ?_
     exact pt_next _ (zi h).symm rfl
    ·intro u71 h hl72 hr73
     refine ht_block ?_
     refine ht_seq ?_
     obtain ⟨v3, hv3, h⟩:=zn h
     obtain ⟨v4, hv4, h⟩:=zn h
     refine yx hn 1 ?_
     refine yS (.eref (.slot 3) (v3 * 1)) 0 ⟨op_ix_mk _ _ _ _ _ _ _ underlying28 sz5 rfl rfl rfl (ix_ok hv3).1 (mk_lt' (ix_ok hv3).2) rfl⟩ ?_
     refine yS (.v (.int .u8 v4)) 2 ⟨op_load_mk _ _ _ _ _ _ underlying5 rfl rfl rfl (map_get hv4)⟩ ?_
     refine yee [3,8,9,10,4,5] ?_
     refine ht_seq ?_
     refine ht_joinS h (fun (s74:Bool)=>[(3,.mkr 5 (map (int .u8) s40)),(8,.same (.slot 3)),(9,vi (v1.length:Int)),(10,vi s41),(4,vi s41),(5,.v (.int .u8 v4)),(20,vb s74)]) ?_ ?_
     ·rintro s74 h
      refine pt_then ?_
      refine ht_cond _ rfl (fun hb78 => ?_) (fun hb78 => ?_)
      ·have h:=cond_t hb78 h
       obtain ⟨v10, hv10, h⟩:=zn h
       obtain ⟨v11, hv11, h⟩:=zn h
       obtain ⟨v12, hv12, h⟩:=zn h
       refine yx hn 3 ?_
       refine ys 0 ⟨lb hv10⟩ ?_
       refine yS (.eref (.slot 3) (v11 * 1)) 0 ⟨op_ix_mk _ _ _ _ _ _ _ underlying28 sz5 rfl rfl rfl (ix_ok hv11).1 (mk_lt' (ix_ok hv11).2) rfl⟩ ?_
       refine yk [3] [25,24] ?_
       refine yt (3,.mkr 5 (map (int .u8) v12)) 0 ⟨op_store_mk _ _ _ _ _ _ _ sz5 rfl rfl rfl (mk_lt (ix_ok hv11).2) (mk_set (f:=int .u8) (Option.some.inj hv12))⟩ ?_
       refine ye [3,8,9,10] ?_
       refine pt_inb ?_
       exact hl72 _ (zi h).symm
      ·have h:=cond_f hb78 h
       refine ht_skip ?_
       refine pt_inb ?_
       refine pt_pick [0,1,2,3] (by kernel_rfl) (es':=[(_,_),(_,_),(_,_),(_,_)]) rfl ?_
       exact hl72 _ (zi h).symm
     ·intro u75 h hl76 hr77
      refine cond_some h (fun hg5_2 h => ?_) (fun hg5_2 h => ?_)
      ·refine yx hn 3 ?_
       refine yd hg5_2 3 ?_
       refine ye [3,8,9,10,4,5,20] ?_
       exact hl76 _ (zi h).symm
      ·refine yx hn 3 ?_
       refine yd hg5_2 3 ?_
       refine ye [3,8,9,10,4,5,20] ?_
       exact hl76 _ (zi h).symm
   ·have h:=cond_f hb64 h
    refine ht_exit ?_
    refine pt_x_then ?_
    refine pt_x_then ?_
    refine pt_x_in ?_
    refine pt_pick [0] (by kernel_rfl) (es':=[(_,_)]) rfl ?_
    exact hl59 _ (ho61 _ (zi h).symm).symm
theorem ok_gate_equalFold (a:ByteArray) (b:ByteArray) (r:Bool) (h:Sh.gate_equalFold a b=some r):FnOK Tryz.prog 56 [.v (.string a), .v (.string b)] (.v (.bool r)):=by
  unfold Sh.gate_equalFold at h
  refine yO 10 func56 fun g0 hn hio => ?_
  refine yyy hn 1 [0,1] ?_
  refine ht_seq ?_
  obtain ⟨v1, hv1, h⟩:=zn h
  obtain ⟨v2, hv2, h⟩:=zn h
  refine yx hn 1 ?_
  refine ys 1 ⟨lk call71 (ok_path_Fold _ _ hv1)⟩ ?_
  refine ys 2 ⟨lk call71 (ok_path_Fold _ _ hv2)⟩ ?_
  refine yee [4] ?_
  refine ht_ret ?_
  obtain rfl:=zi h
  exact pt_ret hio rfl (.tmp _ _ .nil) rfl rfl
theorem ok_gate_within (s:ByteArray) (least:Int) (r:Bool) (h:Sh.gate_within s least=some r):FnOK Tryz.prog 58 [.v (.string s), .v (.int .u8 least)] (.v (.bool r)):=by
  unfold Sh.gate_within at h
  refine yO 23 func58 fun g0 hn hio => ?_
  refine yyy hn 1 [0,1] ?_
  refine ht_seq ?_
  refine yyy hn 3 [0,1,7,8] ?_
  refine ht_loopS h (fun (s17:Int)=>[(0,vs s),(1,.v (.int .u8 least)),(7,vi (s.size:Int)),(8,vi s17)]) (fun (():Unit)=>[]) ?_ ?_
  ·rintro ⟨⟩ h
   refine pt_then ?_
   refine yyy hn 1 [4] ?_
   refine ht_ret ?_
   obtain rfl:=zi h
   exact pt_ret hio rfl (.tmp _ _ .nil) rfl rfl
  ·rintro u24 hl25 hr26 s17 rr29 h ho27
   refine yyy hn 1 [0,1,7,8,9] ?_
   refine ht_seq ?_
   refine ht_cond _ rfl (fun hb30 => ?_) (fun hb30 => ?_)
   ·have h:=cond_t hb30 h
    refine ht_skip ?_
    refine pt_then (ht_seq ?_)
    refine ht_block ?_
    refine yyy hn 2 [0,1,7,8,5] ?_
    refine ht_seq ?_
    refine ht_joinS h (fun (s31:Bool)=>[(0,vs s),(1,.v (.int .u8 least)),(7,vi (s.size:Int)),(8,vi s17),(21,vb s31)]) ?_ ?_
    ·rintro s31 h
     refine pt_then ?_
     refine ht_cond _ rfl (fun hb35 => ?_) (fun hb35 => ?_)
     ·have h:=cond_t hb35 h
      refine yyy hn 1 [4] ?_
      refine ht_ret ?_
      refine pt_r_in ?_
      refine pt_r_then ?_
      refine pt_r_then ?_
      refine pt_r_in ?_
      refine pt_r_then ?_
      have h:=hr26 _ (ho27 _ (zi h).symm).symm
      obtain rfl:=zi h
      exact pt_ret hio rfl (.tmp _ _ .nil) rfl rfl
     ·have h:=cond_f hb35 h
      refine ht_skip ?_
      refine pt_inb ?_
      refine pt_then ?_
      obtain ⟨v9, hv9, h⟩:=zn h
      refine yx hn 0 ?_
      refine ys 0 ⟨lb hv9⟩ ?_
      refine yw [8] 1 ?_
      refine ye [0,1,7,8] ?_
      exact pt_next _ (zi h).symm rfl
    ·intro u32 h hl33 hr34
     obtain ⟨v2, hv2, h⟩:=zn h
     refine cond_some h (fun hg4_5 h => ?_) (fun hg4_5 h => ?_)
     ·refine yx hn 2 ?_
      refine ys 3 ⟨lh hv2⟩ ?_
      refine yd hg4_5 5 ?_
      refine ye [0,1,7,8,21] ?_
      exact hl33 _ (zi h).symm
     ·obtain ⟨v3, hv3, h⟩:=zn h
      refine yx hn 2 ?_
      refine ys 3 ⟨lh hv2⟩ ?_
      refine yd hg4_5 2 ?_
      refine ys 2 ⟨lh hv3⟩ ?_
      refine ye [0,1,7,8,21] ?_
      exact hl33 _ (zi h).symm
   ·have h:=cond_f hb30 h
    refine ht_exit ?_
    refine pt_x_then ?_
    refine pt_x_then ?_
    refine pt_x_in ?_
    refine pt_pick [] (by kernel_rfl) (es':=[]) rfl ?_
    exact hl25 _ (ho27 _ (zi h).symm).symm
theorem ok_gate_word (s:ByteArray) (r:Bool) (h:Sh.gate_word s=some r):FnOK Tryz.prog 57 [.v (.string s)] (.v (.bool r)):=by
  unfold Sh.gate_word at h
  refine yO 15 func57 fun g0 hn hio => ?_
  refine yyy hn 1 [0] ?_
  refine ht_seq ?_
  refine ht_joinS h (fun (s2:Bool)=>[(2,vb s2)]) ?_ ?_
  ·rintro s2 h
   refine pt_then (ht_ret ?_)
   obtain rfl:=zi h
   exact pt_ret hio rfl (.tmp _ _ .nil) rfl rfl
  ·intro u3 h hl4 hr5
   refine cond_some h (fun hg1_3 h => ?_) (fun hg1_3 h => ?_)
   ·refine cond_some h (fun hg1_8 h => ?_) (fun hg1_8 h => ?_)
    ·obtain ⟨v1, hv1, h⟩:=zn h
     refine yx hn 4 ?_
     refine yd hg1_3 5 ?_
     refine yd hg1_8 1 ?_
     refine ys 2 ⟨lk call58 (ok_gate_within _ _ _ hv1)⟩ ?_
     refine ye [2] ?_
     exact hl4 _ (zi h).symm
    ·refine yx hn 4 ?_
     refine yd hg1_3 5 ?_
     refine yd hg1_8 4 ?_
     refine ye [2] ?_
     exact hl4 _ (zi h).symm
   ·refine yx hn 4 ?_
    refine yd hg1_3 9 ?_
    refine ye [2] ?_
    exact hl4 _ (zi h).symm
theorem ok_gate_Config (mx:Int×Nat×Value) (c:T_Config) (r:Int) (h:Sh.gate_Config c=some r):FnG Tryz.prog (GL mx) 35 [.agg [.v (.string ((c.Domains.getD 0 (⟨#[]⟩:ByteArray)))), .v (.string ((c.Domains.getD 1 (⟨#[]⟩:ByteArray)))), .v (.int .i64 c.Expiry), .v (.string c.User), .v (.string c.Secret), .v (.int .i64 c.Log), .v (.bool c.Held)]] (.v (.int .i64 r)):=by
  unfold Sh.gate_Config at h
  refine yG 65 func35 fun g0 hn hio => ?_
  refine yyy hn 2 [65,1] ?_
  refine ht_seq ?_
  refine ht_joinS h (fun (s4:Bool)=>[(65,.glob (GL mx)),(1,.box 24 (T_Config.c c [])),(3,vb s4)]) ?_ ?_
  ·rintro s4 h
   refine pt_then (ht_seq ?_)
   refine ht_joinS h (fun (s8:Bool)=>[(65,.glob (GL mx)),(1,.box 24 (T_Config.c c [])),(3,vb s4),(4,vb s8)]) ?_ ?_
   ·rintro s8 h
    refine pt_then (ht_seq ?_)
    refine ht_joinS h (fun (s14:Bool)=>[(65,.glob (GL mx)),(1,.box 24 (T_Config.c c [])),(3,vb s4),(4,vb s8),(5,vb s14)]) ?_ ?_
    ·rintro s14 h
     refine pt_then (ht_seq ?_)
     refine ht_joinS h (fun (s18:Bool)=>[(65,.glob (GL mx)),(3,vb s4),(4,vb s8),(5,vb s14),(6,vb s18)]) ?_ ?_
     ·rintro s18 h
      refine pt_then (ht_seq ?_)
      refine ht_seq ?_
      refine ht_joinS h (fun (s22:Bool)=>[(65,.glob (GL mx)),(64,vb s22)]) ?_ ?_
      ·rintro s22 h
       refine pt_then ?_
       refine ht_cond _ rfl (fun hb26 => ?_) (fun hb26 => ?_)
       ·have h:=cond_t hb26 h
        refine yyy hn 1 [65,2] ?_
        refine ht_ret ?_
        refine pt_pick [1] (by kernel_rfl) (es':=[(_,_)]) rfl ?_
        refine pt_r_then ?_
        obtain rfl:=zi h
        exact pt_ret hio rfl (.tmp _ _ .nil) rfl rfl
       ·have h:=cond_f hb26 h
        refine ht_skip ?_
        refine pt_then ?_
        refine yyy hn 1 [65,2] ?_
        refine ht_ret ?_
        refine pt_pick [1] (by kernel_rfl) (es':=[(_,_)]) rfl ?_
        obtain rfl:=zi h
        exact pt_ret hio rfl (.tmp _ _ .nil) rfl rfl
      ·intro u23 h hl24 hr25
       refine cond_some h (fun hg5_2 h => ?_) (fun hg5_2 h => ?_)
       ·refine yx hn 3 ?_
        refine yd hg5_2 11 ?_
        refine ye [65,64] ?_
        exact hl24 _ (zi h).symm
       ·refine cond_some h (fun hg5_6 h => ?_) (fun hg5_6 h => ?_)
        ·refine yx hn 3 ?_
         refine yd hg5_2 4 ?_
         refine yd hg5_6 7 ?_
         refine ye [65,64] ?_
         exact hl24 _ (zi h).symm
        ·refine cond_some h (fun hg5_10 h => ?_) (fun hg5_10 h => ?_)
         ·refine yx hn 3 ?_
          refine yd hg5_2 4 ?_
          refine yd hg5_6 4 ?_
          refine yd hg5_10 3 ?_
          refine ye [65,64] ?_
          exact hl24 _ (zi h).symm
         ·refine yx hn 3 ?_
          refine yd hg5_2 4 ?_
          refine yd hg5_6 4 ?_
          refine yd hg5_10 3 ?_
          refine ye [65,64] ?_
          exact hl24 _ (zi h).symm
     ·intro u19 h hl20 hr21
      refine cond_some h (fun hg4_3 h => ?_) (fun hg4_3 h => ?_)
      ·refine yx hn 4 ?_
       refine yd hg4_3 5 ?_
       refine ye [65,3,4,5,6] ?_
       exact hl20 _ (zi h).symm
      ·refine yx hn 4 ?_
       refine yd hg4_3 5 ?_
       refine ye [65,3,4,5,6] ?_
       exact hl20 _ (zi h).symm
    ·intro u15 h hl16 hr17
     obtain ⟨v12, hv12, h⟩:=zn h
     refine cond_some h (fun hg3_3 h => ?_) (fun hg3_3 h => ?_)
     ·obtain ⟨v13, hv13, h⟩:=zn h
      refine yx hn 2 ?_
      refine ys 1 ⟨lk call57 (ok_gate_word _ _ hv12)⟩ ?_
      refine yd hg3_3 2 ?_
      refine ys 2 ⟨lk call57 (ok_gate_word _ _ hv13)⟩ ?_
      refine ye [65,1,3,4,5] ?_
      exact hl16 _ (zi h).symm
     ·refine yx hn 2 ?_
      refine ys 1 ⟨lk call57 (ok_gate_word _ _ hv12)⟩ ?_
      refine yd hg3_3 5 ?_
      refine ye [65,1,3,4,5] ?_
      exact hl16 _ (zi h).symm
   ·intro u9 h hl10 hr11
    refine cond_some h (fun hg2_3 h => ?_) (fun hg2_3 h => ?_)
    ·refine yx hn 4 ?_
     refine yd hg2_3 5 ?_
     refine ye [65,1,3,4] ?_
     exact hl10 _ (zi h).symm
    ·refine yx hn 4 ?_
     refine yd hg2_3 5 ?_
     refine ye [65,1,3,4] ?_
     exact hl10 _ (zi h).symm
  ·intro u5 h hl6 hr7
   obtain ⟨v1, hv1, h⟩:=zn h
   refine cond_some h (fun hg1_4 h => ?_) (fun hg1_4 h => ?_)
   ·obtain ⟨v2, hv2, h⟩:=zn h
    refine cond_some h (fun hg1_10 h => ?_) (fun hg1_10 h => ?_)
    ·obtain ⟨v3, hv3, h⟩:=zn h
     refine yx hn 1 ?_
     refine yS (.ptr 1 0) 1 ⟨op_indexAddr_a _ _ _ _ 2 1 0 0 1 underlying22 sz9 rfl rfl (by decide) (by decide)⟩ ?_
     refine ys 1 ⟨lg call55 (ok_path_Domain _ _ _ hv1) 65⟩ ?_
     refine yd hg1_4 1 ?_
     refine yS (.ptr 1 1) 1 ⟨op_indexAddr_a _ _ _ _ 2 1 0 1 1 underlying22 sz9 rfl rfl (by decide) (by decide)⟩ ?_
     refine ys 2 ⟨lg call55 (ok_path_Domain _ _ _ hv2) 65⟩ ?_
     refine yd hg1_10 1 ?_
     refine yS (.ptr 1 0) 2 ⟨op_indexAddr_a _ _ _ _ 2 1 0 0 1 underlying22 sz9 rfl rfl (by decide) (by decide)⟩ ?_
     refine yS (.ptr 1 1) 1 ⟨op_indexAddr_a _ _ _ _ 2 1 0 1 1 underlying22 sz9 rfl rfl (by decide) (by decide)⟩ ?_
     refine ys 3 ⟨lk call56 (ok_gate_equalFold _ _ _ hv3)⟩ ?_
     refine ye [65,1,3] ?_
     exact hl6 _ (zi h).symm
    ·refine yx hn 1 ?_
     refine yS (.ptr 1 0) 1 ⟨op_indexAddr_a _ _ _ _ 2 1 0 0 1 underlying22 sz9 rfl rfl (by decide) (by decide)⟩ ?_
     refine ys 1 ⟨lg call55 (ok_path_Domain _ _ _ hv1) 65⟩ ?_
     refine yd hg1_4 1 ?_
     refine yS (.ptr 1 1) 1 ⟨op_indexAddr_a _ _ _ _ 2 1 0 1 1 underlying22 sz9 rfl rfl (by decide) (by decide)⟩ ?_
     refine ys 2 ⟨lg call55 (ok_path_Domain _ _ _ hv2) 65⟩ ?_
     refine yd hg1_10 10 ?_
     refine ye [65,1,3] ?_
     exact hl6 _ (zi h).symm
   ·refine yx hn 1 ?_
    refine yS (.ptr 1 0) 1 ⟨op_indexAddr_a _ _ _ _ 2 1 0 0 1 underlying22 sz9 rfl rfl (by decide) (by decide)⟩ ?_
    refine ys 1 ⟨lg call55 (ok_path_Domain _ _ _ hv1) 65⟩ ?_
    refine yd hg1_4 16 ?_
    refine ye [65,1,3] ?_
    exact hl6 _ (zi h).symm
theorem ok_gate_valid (g:T_Gate) (r:Bool) (h:Sh.gate_valid g=some r):FnOK Tryz.prog 36 [.agg [.v (.int .i64 g.Phase), .v (.string g.Helo), .v (.bool g.From.Null), .v (.string g.From.Local), .v (.string g.From.Domain), .fl .shr 3 (flatten (map T_Path.enc g.To)), .v (.bool g.Quiet), .fl .shr 1 (map (int .u8) g.Buf), .v (.string g.Challenge), .v (.bool g.Proved)]] (.v (.bool r)):=by
  unfold Sh.gate_valid at h
  refine yO 22 func36 fun g0 hn hio => ?_
  refine yyy hn 2 [1] ?_
  refine ht_seq ?_
  refine ht_joinS h (fun (s2:Bool)=>[(2,vb s2)]) ?_ ?_
  ·rintro s2 h
   refine pt_then (ht_ret ?_)
   obtain rfl:=zi h
   exact pt_ret hio rfl (.tmp _ _ .nil) rfl rfl
  ·intro u3 h hl4 hr5
   refine cond_some h (fun hg1_3 h => ?_) (fun hg1_3 h => ?_)
   ·refine cond_some h (fun hg1_8 h => ?_) (fun hg1_8 h => ?_)
    ·refine cond_some h (fun hg1_14 h => ?_) (fun hg1_14 h => ?_)
     ·obtain ⟨v1, hv1, h⟩:=zn h
      refine yx hn 4 ?_
      refine yd hg1_3 5 ?_
      refine yd hg1_8 6 ?_
      refine yd hg1_14 2 ?_
      refine ys 2 ⟨lk call58 (ok_gate_within _ _ _ hv1)⟩ ?_
      refine ye [2] ?_
      exact hl4 _ (zi h).symm
     ·refine yx hn 4 ?_
      refine yd hg1_3 5 ?_
      refine yd hg1_8 6 ?_
      refine yd hg1_14 5 ?_
      refine ye [2] ?_
      exact hl4 _ (zi h).symm
    ·refine yx hn 4 ?_
     refine yd hg1_3 5 ?_
     refine yd hg1_8 11 ?_
     refine ye [2] ?_
     exact hl4 _ (zi h).symm
   ·refine yx hn 4 ?_
    refine yd hg1_3 16 ?_
    refine ye [2] ?_
    exact hl4 _ (zi h).symm
theorem ok_clone_List_api_Path (l:(List T_Path)) (r:(List T_Path)) (h:Sh.clone_List_api_Path l=some r):FnOK Tryz.prog 59 [.fl .shr 3 (flatten (map T_Path.enc l))] (.fl (.own 26) 3 (flatten (map T_Path.enc r))):=by
  unfold Sh.clone_List_api_Path at h
  refine yO 5 func59 fun g0 hn hio => ?_
  refine yyy hn 1 [0] ?_
  refine ht_seq ?_
  obtain ⟨v1, hv1, h⟩:=zn h
  refine yx hn 1 ?_
  refine yS (.fl (.own 26) 3 (flatten (map T_Path.enc v1))) 0 ⟨op_app_nil _ _ _ _ el27 rfl rfl (flat_len T_Path.len _) hv1 (congrArg (fun l=>flatten (map _ l)) (app_nil_eq hv1))⟩ ?_
  refine ya 0 ?_
  refine yee [2] ?_
  refine ht_ret ?_
  obtain rfl:=zi h
  exact pt_ret hio rfl (.tmp _ _ .nil) rfl rfl
theorem ok_clone_List_byte (l:(List Int)) (r:(List Int)) (h:Sh.clone_List_byte l=some r):FnOK Tryz.prog 60 [.fl .shr 1 (map (int .u8) l)] (.fl (.own 5) 1 (map (int .u8) r)):=by
  unfold Sh.clone_List_byte at h
  refine yO 5 func60 fun g0 hn hio => ?_
  refine yyy hn 1 [0] ?_
  refine ht_seq ?_
  obtain ⟨v1, hv1, h⟩:=zn h
  refine yx hn 1 ?_
  refine yS (.fl (.own 5) 1 (map (int .u8) v1)) 0 ⟨op_app_nil _ _ _ _ el28 rfl rfl (map_len _) hv1 (congrArg (map _) (app_nil_eq hv1))⟩ ?_
  refine ya 0 ?_
  refine yee [2] ?_
  refine ht_ret ?_
  obtain rfl:=zi h
  exact pt_ret hio rfl (.tmp _ _ .nil) rfl rfl
theorem ok_clone_Gate (g:T_Gate) (r:T_Gate) (h:Sh.clone_Gate g=some r):FnOK Tryz.prog 37 [.agg [.v (.int .i64 g.Phase), .v (.string g.Helo), .v (.bool g.From.Null), .v (.string g.From.Local), .v (.string g.From.Domain), .fl .shr 3 (flatten (map T_Path.enc g.To)), .v (.bool g.Quiet), .fl .shr 1 (map (int .u8) g.Buf), .v (.string g.Challenge), .v (.bool g.Proved)]] (.agg [.v (.int .i64 r.Phase), .v (.string r.Helo), .v (.bool r.From.Null), .v (.string r.From.Local), .v (.string r.From.Domain), .fl (.own 26) 3 (flatten (map T_Path.enc r.To)), .v (.bool r.Quiet), .fl (.own 5) 1 (map (int .u8) r.Buf), .v (.string r.Challenge), .v (.bool r.Proved)]):=by
  unfold Sh.clone_Gate at h
  refine yO 12 func37 fun g0 hn hio => ?_
  refine yxx hn 1 ?_
  refine yS (.box 30 [vi 0,vs z0,vb false,vs z0,vs z0,vz,vb false,vz,vs z0,vb false]) 0 ⟨oA (op_alloc _ _ zr30)⟩ ?_
  refine yee [1,2] ?_
  refine ht_seq ?_
  obtain ⟨v1, hv1, h⟩:=zn h
  refine yx hn 2 ?_
  refine ys 1 ⟨lk call59 (ok_clone_List_api_Path _ _ hv1)⟩ ?_
  refine yk [5,1] [6] ?_
  refine yt (1,.box 30 [vi g.Phase,vs g.Helo,vb g.From.Null,vs g.From.Local,vs g.From.Domain,.fl (.own 26) 3 (flatten (map T_Path.enc v1)),vb g.Quiet,fb g.Buf,vs g.Challenge,vb g.Proved]) 0 ⟨op_store_take _ _ _ _ _ _ _ _ sz27 rfl rfl rfl (zl rfl) rfl rfl⟩ ?_
  refine yee [1,2] ?_
  refine ht_seq ?_
  obtain ⟨v2, hv2, h⟩:=zn h
  refine yx hn 2 ?_
  refine ys 1 ⟨lk call60 (ok_clone_List_byte _ _ hv2)⟩ ?_
  refine yk [9,1] [10] ?_
  refine yt (1,.box 30 [vi g.Phase,vs g.Helo,vb g.From.Null,vs g.From.Local,vs g.From.Domain,.fl (.own 26) 3 (flatten (map T_Path.enc v1)),vb g.Quiet,.fl (.own 5) 1 (map (int .u8) v2),vs g.Challenge,vb g.Proved]) 0 ⟨op_store_take _ _ _ _ _ _ _ _ sz28 rfl rfl rfl (zl rfl) rfl rfl⟩ ?_
  refine yee [1,2] ?_
  refine yxx hn 0 ?_
  refine yk [1] [] ?_
  refine yt (11,.agg [vi g.Phase,vs g.Helo,vb g.From.Null,vs g.From.Local,vs g.From.Domain,.fl (.own 26) 3 (flatten (map T_Path.enc v1)),vb g.Quiet,.fl (.own 5) 1 (map (int .u8) v2),vs g.Challenge,vb g.Proved]) 0 ⟨op_loadA_take _ _ _ _ underlying30 rfl sz30 rfl rfl⟩ ?_
  refine yk [11,2] [] ?_
  refine yt (2,.box 30 [vi g.Phase,vs g.Helo,vb g.From.Null,vs g.From.Local,vs g.From.Domain,.fl (.own 26) 3 (flatten (map T_Path.enc v1)),vb g.Quiet,.fl (.own 5) 1 (map (int .u8) v2),vs g.Challenge,vb g.Proved]) 0 ⟨op_store_take _ _ _ _ _ _ _ _ sz30 rfl rfl rfl (zl rfl) rfl rfl⟩ ?_
  refine yee [2] ?_
  refine ht_ret ?_
  obtain rfl:=zi h
  exact pt_ret hio rfl (.cellA _ _ _ _ underlying30 rfl sz30 .nil) rfl rfl
theorem ok_bytes_Equal (a:(List Int)) (b:(List Int)) (r:Bool) (h:Sh.bytes_Equal a b=some r):FnOK Tryz.prog 72 [.fl .shr 1 (map (int .u8) a), .fl .shr 1 (map (int .u8) b)] (.v (.bool r)):=by
  unfold Sh.bytes_Equal at h
  refine yO 10 func72 fun g0 hn hio => ?_
  refine yyy hn 1 [0,1] ?_
  refine ht_seq ?_
  obtain ⟨v1, hv1, h⟩:=zn h
  obtain ⟨v2, hv2, h⟩:=zn h
  refine yx hn 1 ?_
  refine ys 1 ⟨lS hv1⟩ ?_
  refine ys 2 ⟨lS hv2⟩ ?_
  refine yee [4] ?_
  refine ht_ret ?_
  obtain rfl:=zi h
  exact pt_ret hio rfl (.tmp _ _ .nil) rfl rfl
theorem ok_bytes_HasSuffix (s:(List Int)) (suffix:(List Int)) (r:Bool) (h:Sh.bytes_HasSuffix s suffix=some r):FnOK Tryz.prog 61 [.fl .shr 1 (map (int .u8) s), .fl .shr 1 (map (int .u8) suffix)] (.v (.bool r)):=by
  unfold Sh.bytes_HasSuffix at h
  refine yO 21 func61 fun g0 hn hio => ?_
  refine yyy hn 1 [0,1] ?_
  refine ht_seq ?_
  refine ht_joinS h (fun (s4:Bool)=>[(4,vb s4)]) ?_ ?_
  ·rintro s4 h
   refine pt_then (ht_ret ?_)
   obtain rfl:=zi h
   exact pt_ret hio rfl (.tmp _ _ .nil) rfl rfl
  ·intro u5 h hl6 hr7
   refine cond_some h (fun hg1_5 h => ?_) (fun hg1_5 h => ?_)
   ·obtain ⟨v1, hv1, h⟩:=zn h
    obtain ⟨v2, hv2, h⟩:=zn h
    obtain ⟨v3, hv3, h⟩:=zn h
    refine yx hn 6 ?_
    refine yd hg1_5 5 ?_
    refine ys 0 ⟨lb hv1⟩ ?_
    refine yS (fb v2) 1 ⟨op_sl _ _ _ v1 (s.length:Int) _ underlying28 sz5 rfl rfl ⟨_,rfl⟩ rfl hv2⟩ ?_
    refine ys 2 ⟨lk call72 (ok_bytes_Equal _ _ _ hv3)⟩ ?_
    refine ye [4] ?_
    exact hl6 _ (zi h).symm
   ·refine yx hn 6 ?_
    refine yd hg1_5 11 ?_
    refine ye [4] ?_
    exact hl6 _ (zi h).symm
theorem ok_gate_session_complete (s:T_gate_session) (x:Int) (r:(Bool×T_gate_session)) (h:Sh.gate_session_complete s x=some r):FnP Tryz.prog 38 [.box 80 [.v (.int .i64 s.Gate.Phase), .v (.string s.Gate.Helo), .v (.bool s.Gate.From.Null), .v (.string s.Gate.From.Local), .v (.string s.Gate.From.Domain), .fl (.own 26) 3 (flatten (map T_Path.enc s.Gate.To)), .v (.bool s.Gate.Quiet), .mkr 5 (map (int .u8) s.Gate.Buf), .v (.string s.Gate.Challenge), .v (.bool s.Gate.Proved), .v (.string ((s.config.Domains.getD 0 (⟨#[]⟩:ByteArray)))), .v (.string ((s.config.Domains.getD 1 (⟨#[]⟩:ByteArray)))), .v (.int .i64 s.config.Expiry), .v (.string s.config.User), .v (.string s.config.Secret), .v (.int .i64 s.config.Log), .v (.bool s.config.Held), .v (.int .i64 s.site), .v (.int .i64 s.at_), .fr (.own 55) false 12 (flatten (map T_Out.ienc s.out))], .v (.int .u8 x)] [.box 80 [.v (.int .i64 r.2.Gate.Phase), .v (.string r.2.Gate.Helo), .v (.bool r.2.Gate.From.Null), .v (.string r.2.Gate.From.Local), .v (.string r.2.Gate.From.Domain), .fl (.own 26) 3 (flatten (map T_Path.enc r.2.Gate.To)), .v (.bool r.2.Gate.Quiet), .mkr 5 (map (int .u8) r.2.Gate.Buf), .v (.string r.2.Gate.Challenge), .v (.bool r.2.Gate.Proved), .v (.string ((r.2.config.Domains.getD 0 (⟨#[]⟩:ByteArray)))), .v (.string ((r.2.config.Domains.getD 1 (⟨#[]⟩:ByteArray)))), .v (.int .i64 r.2.config.Expiry), .v (.string r.2.config.User), .v (.string r.2.config.Secret), .v (.int .i64 r.2.config.Log), .v (.bool r.2.config.Held), .v (.int .i64 r.2.site), .v (.int .i64 r.2.at_), .fr (.own 55) false 12 (flatten (map T_Out.ienc r.2.out))]] (.v (.bool r.1)):=by
  unfold Sh.gate_session_complete at h
  refine yP 39 func38 fun args0 hargs0 g0 hn hio => ?_
  refine yyy hn 1 [0,1,0] ?_
  refine ht_seq ?_
  refine yyy hn 6 [0,1,10,0] ?_
  refine ht_cond _ rfl (fun hb1 => ?_) (fun hb1 => ?_)
  ·have h:=cond_t hb1 h
   refine ht_seq ?_
   refine ht_joinS h (fun (s4:Bool)=>[(0,.box 80 (vi s.Gate.Phase::vs s.Gate.Helo::vb s.Gate.From.Null::vs s.Gate.From.Local::vs s.Gate.From.Domain::.fl (.own 26) 3 (flatten (map T_Path.enc s.Gate.To))::vb s.Gate.Quiet::.mkr 5 (map (int .u8) s.Gate.Buf)::vs s.Gate.Challenge::vb s.Gate.Proved::T_Config.c s.config [vi s.site,vi s.at_,.fr (.own 55) false 12 (flatten (map T_Out.ienc s.out))])),(4,vb s4),(0,.v (List.getD args0 0 undef))]) ?_ ?_
   ·rintro s4 h
    refine pt_then (ht_ret ?_)
    refine pt_pick [1,0,2] (by kernel_rfl) (es':=[(_,_),(_,_),(_,_)]) rfl ?_
    refine pt_r_then ?_
    obtain rfl:=zi h
    exact pt_retP (es:=[(4, .v (.bool s4))]) (posts:=[.box 80 [.v (.int .i64 s.Gate.Phase),.v (.string s.Gate.Helo),.v (.bool s.Gate.From.Null),.v (.string s.Gate.From.Local),.v (.string s.Gate.From.Domain),.fl (.own 26) 3 (flatten (map T_Path.enc s.Gate.To)),.v (.bool s.Gate.Quiet),.mkr 5 (map (int .u8) s.Gate.Buf),.v (.string s.Gate.Challenge),.v (.bool s.Gate.Proved),.v (.string ((s.config.Domains.getD 0 (⟨#[]⟩:ByteArray)))),.v (.string ((s.config.Domains.getD 1 (⟨#[]⟩:ByteArray)))),.v (.int .i64 s.config.Expiry),.v (.string s.config.User),.v (.string s.config.Secret),.v (.int .i64 s.config.Log),.v (.bool s.config.Held),.v (.int .i64 s.site),.v (.int .i64 s.at_),.fr (.own 55) false 12 (flatten (map T_Out.ienc s.out))]]) hio rfl rfl (.tmp _ _ .nil) rfl rfl hargs0 rfl
   ·intro u5 h hl6 hr7
    obtain ⟨v2, hv2, h⟩:=zn h
    refine cond_some h (fun hg2_7 h => ?_) (fun hg2_7 h => ?_)
    ·refine yx hn 5 ?_
     refine ys 2 ⟨lM hv2⟩ ?_
     refine yd hg2_7 10 ?_
     refine ye [0,4,0] ?_
     exact hl6 _ (zi h).symm
    ·obtain ⟨v3, hv3, h⟩:=zn h
     refine yx hn 5 ?_
     refine ys 2 ⟨lM hv2⟩ ?_
     refine yd hg2_7 5 ?_
     refine yS (.fl (.own 5) 1 (map (int .u8) [13,10,46,13,10])) 0 ⟨op_buildSlice _ _ 1 (.int .u8 0) (map (int .u8) [13,10,46,13,10]) [(0,.int .u8 13),(1,.int .u8 10),(2,.int .u8 46),(3,.int .u8 13),(4,.int .u8 10)] underlying28 sz5 zr5 (fun _ V w o a hv hes=>by simp only [List.map_toArray,List.map_cons,List.map_nil]; try rfl) (litfill (by simp [Instr.fill,Value.cells]; rfl) (by simp [List.range,List.range.loop] <;> rfl)) (by simp [Value.oneCell']) rfl (by decide) (by decide) (by decide)⟩ ?_
     refine yk [24] [] ?_
     refine yt (25,.fl .ro 1 (map (int .u8) [13,10,46,13,10])) 0 ⟨op_conv_mark _ _ _ underlying28 underlying5 (by intro h; cases h)⟩ ?_
     refine ys 2 ⟨lk call61 (ok_bytes_HasSuffix _ _ _ hv3)⟩ ?_
     refine ye [0,4,0] ?_
     exact hl6 _ (zi h).symm
  ·have h:=cond_f hb1 h
   refine ht_skip ?_
   refine pt_then (ht_seq ?_)
   refine ht_joinS h (fun (s8:Bool)=>[(0,.box 80 (vi s.Gate.Phase::vs s.Gate.Helo::vb s.Gate.From.Null::vs s.Gate.From.Local::vs s.Gate.From.Domain::.fl (.own 26) 3 (flatten (map T_Path.enc s.Gate.To))::vb s.Gate.Quiet::.mkr 5 (map (int .u8) s.Gate.Buf)::vs s.Gate.Challenge::vb s.Gate.Proved::T_Config.c s.config [vi s.site,vi s.at_,.fr (.own 55) false 12 (flatten (map T_Out.ienc s.out))])),(4,vb s8),(0,.v (List.getD args0 0 undef))]) ?_ ?_
   ·rintro s8 h
    refine pt_then (ht_ret ?_)
    refine pt_pick [1,0,2] (by kernel_rfl) (es':=[(_,_),(_,_),(_,_)]) rfl ?_
    obtain rfl:=zi h
    exact pt_retP (es:=[(4, .v (.bool s8))]) (posts:=[.box 80 [.v (.int .i64 s.Gate.Phase),.v (.string s.Gate.Helo),.v (.bool s.Gate.From.Null),.v (.string s.Gate.From.Local),.v (.string s.Gate.From.Domain),.fl (.own 26) 3 (flatten (map T_Path.enc s.Gate.To)),.v (.bool s.Gate.Quiet),.mkr 5 (map (int .u8) s.Gate.Buf),.v (.string s.Gate.Challenge),.v (.bool s.Gate.Proved),.v (.string ((s.config.Domains.getD 0 (⟨#[]⟩:ByteArray)))),.v (.string ((s.config.Domains.getD 1 (⟨#[]⟩:ByteArray)))),.v (.int .i64 s.config.Expiry),.v (.string s.config.User),.v (.string s.config.Secret),.v (.int .i64 s.config.Log),.v (.bool s.config.Held),.v (.int .i64 s.site),.v (.int .i64 s.at_),.fr (.own 55) false 12 (flatten (map T_Out.ienc s.out))]]) hio rfl rfl (.tmp _ _ .nil) rfl rfl hargs0 rfl
   ·intro u9 h hl10 hr11
    refine cond_some h (fun hg3_2 h => ?_) (fun hg3_2 h => ?_)
    ·refine yx hn 3 ?_
     refine yd hg3_2 9 ?_
     refine ye [0,4,0] ?_
     exact hl10 _ (zi h).symm
    ·refine yx hn 3 ?_
     refine yd hg3_2 5 ?_
     refine yS (vi (s.Gate.Buf.length:Int)) 3 ⟨op_len_mk _ _ _ underlying28 rfl (List.length_map _)⟩ ?_
     refine ye [0,4,0] ?_
     exact hl10 _ (zi h).symm
end Go.Proofs.YtjnnkhmhjcjhdaaGreatDoor
