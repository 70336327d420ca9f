/-
  The model's runs are what is told in Lean.
-/
import Derived.Test.YtjnnkhmhjcjhdaaGreatDoorProg
import Derived.KernelRfl
import Derived.Test.YtjnnkhmhjcjhdaaGreatDoorShelf
import Derived.Test.YtjnnkhmhjcjhdaaGreatDoorIdx
import Derived.Test.YtjnnkhmhjcjhdaaGreatDoorB3
import Derived.Test.YtjnnkhmhjcjhdaaGreatDoorC1
import Derived.Test.YtjnnkhmhjcjhdaaGreatDoorBC
import Derived.Test.YtjnnkhmhjcjhdaaGreatDoorSh
set_option linter.unusedVariables false
set_option linter.unusedSimpArgs false
set_option maxHeartbeats 1000000
namespace Go.Proofs.YtjnnkhmhjcjhdaaGreatDoor
open Go.Abs Go.Abs.Sh Tryz
open List (map flatten)
open Value (int)
def GL (mx:Int×Nat×Value):List (Nat×List Value):=[(0, [.int .i64 mx.1]), (1, (List.map (Value.int .u8) lG)), (2, (List.map (Value.int .u8) nQ)), (3, [.iface mx.2.1 mx.2.2]), (5, (List.map (Value.int .u32) gW)), (6, (List.map (Value.int .i64) mE)), (7, (List.map (Value.int .u64) kZ))]
theorem CI (mx:Int×Nat×Value):(0, ([.int .i64 mx.1]:List Value))∈GL mx := .head _
theorem Gt (mx:Int×Nat×Value):(1, ((List.map (Value.int .u8) lG):List Value))∈GL mx := .tail _ (.head _)
theorem KY (mx:Int×Nat×Value):(2, ((List.map (Value.int .u8) nQ):List Value))∈GL mx := .tail _ (.tail _ (.head _))
theorem KR (mx:Int×Nat×Value):(3, ([.iface mx.2.1 mx.2.2]:List Value))∈GL mx := .tail _ (.tail _ (.tail _ (.head _)))
theorem JW (mx:Int×Nat×Value):(5, ((List.map (Value.int .u32) gW):List Value))∈GL mx := .tail _ (.tail _ (.tail _ (.tail _ (.head _))))
theorem Lk (mx:Int×Nat×Value):(6, ((List.map (Value.int .i64) mE):List Value))∈GL mx := .tail _ (.tail _ (.tail _ (.tail _ (.tail _ (.head _)))))
theorem KJ (mx:Int×Nat×Value):(7, ((List.map (Value.int .u64) kZ):List Value))∈GL mx := .tail _ (.tail _ (.tail _ (.tail _ (.tail _ (.tail _ (.head _))))))
instance iUD3:UD Tryz.prog 3 (.int .i64):=⟨Tryz.underlying3⟩
instance iUD39:UD Tryz.prog 39 (.int .u64):=⟨Tryz.underlying39⟩
instance iUD9:UD Tryz.prog 9 .string:=⟨Tryz.underlying9⟩
theorem Nk:(Tryz.prog.info? 24).bind (·.zero)=some (.agg #[.string ByteArray.empty, .string ByteArray.empty, .int .i64 0, .string ByteArray.empty, .string ByteArray.empty, .int .i64 0, .bool false]):=by kernel_rfl
theorem Am:(Tryz.prog.info? 9).map (·.size)=some 1:=by kernel_rfl
theorem OO:(Tryz.prog.info? 22).bind (·.zero)=some (.agg #[.string ByteArray.empty, .string ByteArray.empty]):=by kernel_rfl
theorem Pn:∀ fs, Tryz.prog.underlying 24=some (.struct fs)→fs.toList.map (fun f=>(Tryz.prog.info? f.type).map (·.size))=([2, 1, 1, 1, 1, 1]:List Nat).map some:=by
  intro fs h
  rw [Tryz.underlying24] at h
  cases h
  kernel_rfl
theorem Nf:(Tryz.prog.info? 24).map (·.size)=some 7:=by kernel_rfl
instance iAG24:AA Tryz.prog 24 7:=⟨by kernel_rfl⟩
theorem Ao:(Tryz.prog.info? 30).bind (·.zero)=some (.agg #[.int .i64 0, .string ByteArray.empty, .bool false, .string ByteArray.empty, .string ByteArray.empty, .slice none 0 0, .bool false, .slice none 0 0, .string ByteArray.empty, .bool false]):=by kernel_rfl
theorem MD:∀ fs, Tryz.prog.underlying 30=some (.struct fs)→fs.toList.map (fun f=>(Tryz.prog.info? f.type).map (·.size))=([1, 1, 3, 1, 1, 1, 1, 1]:List Nat).map some:=by
  intro fs h
  rw [Tryz.underlying30] at h
  cases h
  kernel_rfl
theorem uu:(Tryz.prog.info? 30).map (·.size)=some 10:=by kernel_rfl
instance iAG30:AA Tryz.prog 30 10:=⟨by kernel_rfl⟩
theorem Pi:(Tryz.prog.info? 22).map (·.size)=some 2:=by kernel_rfl
theorem Oh:(Tryz.prog.info? 4).bind (·.zero)=some (.bool false):=by kernel_rfl
instance iAG9:AS Tryz.prog 9:=⟨by kernel_rfl⟩
instance iUD5:UD Tryz.prog 5 (.int .u8):=⟨Tryz.underlying5⟩
instance iUD21:UD Tryz.prog 21 (.int .i32):=⟨Tryz.underlying21⟩
theorem qp:(Tryz.prog.info? 5).map (·.size)=some 1:=by kernel_rfl
instance iAG3:AS Tryz.prog 3:=⟨by kernel_rfl⟩
instance iAG65:AS Tryz.prog 65:=⟨by kernel_rfl⟩
theorem PK:(Tryz.prog.info? 4).map (·.size)=some 1:=by kernel_rfl
instance iAG4:AS Tryz.prog 4:=⟨by kernel_rfl⟩
instance iUD28:UD Tryz.prog 28 (.slice 5):=⟨Tryz.underlying28⟩
instance iFO24_0:FO Tryz.prog 24 0 0:=⟨by kernel_rfl⟩
theorem MC:(Tryz.prog.info? 3).map (·.size)=some 1:=by kernel_rfl
instance iFO24_1:FO Tryz.prog 24 1 2:=⟨by kernel_rfl⟩
instance iFO24_2:FO Tryz.prog 24 2 3:=⟨by kernel_rfl⟩
instance iFO24_3:FO Tryz.prog 24 3 4:=⟨by kernel_rfl⟩
instance iFO24_4:FO Tryz.prog 24 4 5:=⟨by kernel_rfl⟩
instance iFO30_0:FO Tryz.prog 30 0 0:=⟨by kernel_rfl⟩
instance iFO30_6:FO Tryz.prog 30 6 8:=⟨by kernel_rfl⟩
theorem NM:(Tryz.prog.info? 27).map (·.size)=some 1:=by kernel_rfl
theorem NQ:kM Tryz.prog 27 26 3 40:=⟨⟨Tryz.t26, .agg #[.bool false, .string ByteArray.empty, .string ByteArray.empty], Tryz.underlying27, by kernel_rfl, by kernel_rfl, by kernel_rfl, by kernel_rfl, by decide, by kernel_rfl⟩⟩
instance iFO30_3:FO Tryz.prog 30 3 5:=⟨by kernel_rfl⟩
instance iAG27:AS Tryz.prog 27:=⟨by kernel_rfl⟩
theorem pW:(Tryz.prog.info? 28).map (·.size)=some 1:=by kernel_rfl
theorem oz:kM Tryz.prog 28 5 1 1:=⟨⟨Tryz.t5, .int .u8 0, Tryz.underlying28, by kernel_rfl, by kernel_rfl, by kernel_rfl, by kernel_rfl, by decide, by kernel_rfl⟩⟩
instance iFO30_5:FO Tryz.prog 30 5 7:=⟨by kernel_rfl⟩
instance iAG28:AS Tryz.prog 28:=⟨by kernel_rfl⟩
theorem OM:∀ fs, Tryz.prog.underlying 80=some (.struct fs)→fs.toList.map (fun f=>(Tryz.prog.info? f.type).map (·.size))=([10, 7, 1, 1, 1]:List Nat).map some:=by
  intro fs h
  rw [Tryz.underlying80] at h
  cases h
  kernel_rfl
theorem Ow:(Tryz.prog.info? 80).bind (·.zero)=some (.agg #[.int .i64 0, .string ByteArray.empty, .bool false, .string ByteArray.empty, .string ByteArray.empty, .slice none 0 0, .bool false, .slice none 0 0, .string ByteArray.empty, .bool false, .string ByteArray.empty, .string ByteArray.empty, .int .i64 0, .string ByteArray.empty, .string ByteArray.empty, .int .i64 0, .bool false, .int .i64 0, .int .i64 0, .slice none 0 0]):=by kernel_rfl
instance iSZ5:SZ Tryz.prog 5 1:=⟨by kernel_rfl⟩
instance iAG5:AS Tryz.prog 5:=⟨by kernel_rfl⟩
theorem zS:(Tryz.prog.info? 5).bind (·.zero)=some (.int .u8 0):=by kernel_rfl
instance iFO80_0:FO Tryz.prog 80 0 0:=⟨by kernel_rfl⟩
abbrev aa.b (x:aa):List AV:=[.v (.int .i64 x.Gate.Phase), .v (.string x.Gate.Helo), .v (.bool x.Gate.From.Null), .v (.string x.Gate.From.Local), .v (.string x.Gate.From.Domain), .fl (.own 26) 3 (List.flatten (List.map bu.enc x.Gate.To)), .v (.bool x.Gate.Quiet), .mkr 5 (List.map (Value.int .u8) x.Gate.Buf), .v (.string x.Gate.Challenge), .v (.bool x.Gate.Proved), .v (.string ((x.config.Domains.getD 0 (⟨#[]⟩:ByteArray)))), .v (.string ((x.config.Domains.getD 1 (⟨#[]⟩:ByteArray)))), .v (.int .i64 x.config.Expiry), .v (.string x.config.User), .v (.string x.config.Secret), .v (.int .i64 x.config.Log), .v (.bool x.config.Held), .v (.int .i64 x.site), .v (.int .i64 x.at_), .fr (.own 55) false 12 (List.flatten (List.map cc.ienc x.out))]
theorem Ky:(Tryz.prog.info? 28).bind (·.zero)=some (.slice none 0 0):=by kernel_rfl
theorem OY:(Tryz.prog.info? 3).bind (·.zero)=some (.int .i64 0):=by kernel_rfl
theorem OG:(Tryz.prog.info? 35).bind (·.zero)=some (.int .i64 0):=by kernel_rfl
instance iAG35:AS Tryz.prog 35:=⟨by kernel_rfl⟩
theorem Ke:(Tryz.prog.info? 51).bind (·.zero)=some (.agg #[.int .i64 0, .slice none 0 0]):=by kernel_rfl
theorem LH:(Tryz.prog.info? 153).bind (·.zero)=some (.agg #[.pointer none, .slice none 0 0]):=by kernel_rfl
instance iUD106:UD Tryz.prog 106 (.int .u32):=⟨Tryz.underlying106⟩
theorem Oj:(Tryz.prog.info? 9).bind (·.zero)=some (.string ByteArray.empty):=by kernel_rfl
theorem Ny:∀ fs, Tryz.prog.underlying 51=some (.struct fs)→fs.toList.map (fun f=>(Tryz.prog.info? f.type).map (·.size))=([1, 1]:List Nat).map some:=by
  intro fs h
  rw [Tryz.underlying51] at h
  cases h
  kernel_rfl
theorem Kx:(Tryz.prog.info? 51).map (·.size)=some 2:=by kernel_rfl
theorem IB:∀ fs, Tryz.prog.underlying 55=some (.struct fs)→fs.toList.map (fun f=>(Tryz.prog.info? f.type).map (·.size))=([2, 1, 8, 1]:List Nat).map some:=by
  intro fs h
  rw [Tryz.underlying55] at h
  cases h
  kernel_rfl
theorem Au:(Tryz.prog.info? 55).bind (·.zero)=some (.agg #[.int .i64 0, .slice none 0 0, .bool false, .bool false, .string ByteArray.empty, .string ByteArray.empty, .slice none 0 0, .slice none 0 0, .bool false, .string ByteArray.empty, .int .i64 0, .bool false]):=by kernel_rfl
theorem Ei:(Tryz.prog.info? 55).map (·.size)=some 12:=by kernel_rfl
theorem zX:(Tryz.prog.info? 26).map (·.size)=some 3:=by kernel_rfl
theorem Pw:∀ fs, Tryz.prog.underlying 53=some (.struct fs)→fs.toList.map (fun f=>(Tryz.prog.info? f.type).map (·.size))=([3, 1, 1, 1, 1, 1]:List Nat).map some:=by
  intro fs h
  rw [Tryz.underlying53] at h
  cases h
  kernel_rfl
theorem Jy:(Tryz.prog.info? 53).bind (·.zero)=some (.agg #[.bool false, .string ByteArray.empty, .string ByteArray.empty, .slice none 0 0, .slice none 0 0, .bool false, .string ByteArray.empty, .int .i64 0]):=by kernel_rfl
theorem JA:(Tryz.prog.info? 53).map (·.size)=some 8:=by kernel_rfl
instance iFO30_2:FO Tryz.prog 30 2 2:=⟨by kernel_rfl⟩
instance iAG26:AA Tryz.prog 26 3:=⟨by kernel_rfl⟩
theorem Oy:∀ fs, Tryz.prog.underlying 62=some (.struct fs)→fs.toList.map (fun f=>(Tryz.prog.info? f.type).map (·.size))=([1, 1, 1]:List Nat).map some:=by
  intro fs h
  rw [Tryz.underlying62] at h
  cases h
  kernel_rfl
theorem Pc:(Tryz.prog.info? 62).bind (·.zero)=some (.agg #[.int .i64 0, .int .i64 0, .slice none 0 0]):=by kernel_rfl
instance iFO62_0:FO Tryz.prog 62 0 0:=⟨by kernel_rfl⟩
instance iFO62_1:FO Tryz.prog 62 1 1:=⟨by kernel_rfl⟩
instance iFO62_2:FO Tryz.prog 62 2 2:=⟨by kernel_rfl⟩
instance iAG60:AS Tryz.prog 60:=⟨by kernel_rfl⟩
instance iUD60:UD Tryz.prog 60 (.slice 53):=⟨Tryz.underlying60⟩
instance iLiT_Mail:LenI dw.ienc 8:=⟨dw.ilen⟩
instance iSZ53:SZ Tryz.prog 53 8:=⟨by kernel_rfl⟩
instance iAG53:AA Tryz.prog 53 8:=⟨by kernel_rfl⟩
theorem Ip:∀ fs, Tryz.prog.underlying 26=some (.struct fs)→fs.toList.map (fun f=>(Tryz.prog.info? f.type).map (·.size))=([1, 1, 1]:List Nat).map some:=by
  intro fs h
  rw [Tryz.underlying26] at h
  cases h
  kernel_rfl
theorem xW:(Tryz.prog.info? 26).bind (·.zero)=some (.agg #[.bool false, .string ByteArray.empty, .string ByteArray.empty]):=by kernel_rfl
instance iFO26_0:FO Tryz.prog 26 0 0:=⟨by kernel_rfl⟩
instance iFO26_1:FO Tryz.prog 26 1 1:=⟨by kernel_rfl⟩
instance iFO26_2:FO Tryz.prog 26 2 2:=⟨by kernel_rfl⟩
instance iFO53_0:FO Tryz.prog 53 0 0:=⟨by kernel_rfl⟩
instance iFO53_1:FO Tryz.prog 53 1 3:=⟨by kernel_rfl⟩
instance iUD27:UD Tryz.prog 27 (.slice 26):=⟨Tryz.underlying27⟩
instance iLT_Path:LenE bu.enc 3:=⟨bu.len⟩
instance iSZ26:SZ Tryz.prog 26 3:=⟨by kernel_rfl⟩
instance iFO53_2:FO Tryz.prog 53 2 4:=⟨by kernel_rfl⟩
instance iFO53_3:FO Tryz.prog 53 3 5:=⟨by kernel_rfl⟩
instance iFO53_4:FO Tryz.prog 53 4 6:=⟨by kernel_rfl⟩
instance iFO53_5:FO Tryz.prog 53 5 7:=⟨by kernel_rfl⟩
instance iAG62:AA Tryz.prog 62 3:=⟨by kernel_rfl⟩
theorem Gl:((Tryz.prog.info? 222).bind (·.zero)).map (·.cells.toList)=some (List.map (Value.int .u32) (List.replicate 16 (0:Int))):=by kernel_rfl
theorem mc:(Tryz.prog.info? 106).map (·.size)=some 1:=by kernel_rfl
theorem Gs:(Tryz.prog.info? 222).map (·.size)=some 16:=by kernel_rfl
instance iUD31:UD Tryz.prog 31 (.slice 3):=⟨Tryz.underlying31⟩
instance iSZ3:SZ Tryz.prog 3 1:=⟨by kernel_rfl⟩
instance iFO30_4:FO Tryz.prog 30 4 6:=⟨by kernel_rfl⟩
instance iFO30_1:FO Tryz.prog 30 1 1:=⟨by kernel_rfl⟩
instance iFO80_3:FO Tryz.prog 80 3 18:=⟨by kernel_rfl⟩
instance iAG55:AA Tryz.prog 55 12:=⟨by kernel_rfl⟩
theorem NH:(Tryz.prog.info? 137).bind (·.zero)=some (.slice none 0 0):=by kernel_rfl
theorem NB:kM Tryz.prog 137 28 1 24:=⟨⟨Tryz.t28, .slice none 0 0, Tryz.underlying137, by kernel_rfl, by kernel_rfl, by kernel_rfl, by kernel_rfl, by decide, by kernel_rfl⟩⟩
theorem Ns:(Tryz.prog.info? 137).map (·.size)=some 1:=by kernel_rfl
instance iAG137:AS Tryz.prog 137:=⟨by kernel_rfl⟩
instance iUD137:UD Tryz.prog 137 (.slice 28):=⟨Tryz.underlying137⟩
instance iLiRow_int_u8:LenI Row_int_u8.ienc 1:=⟨Row_int_u8.ilen⟩
instance iSZ28:SZ Tryz.prog 28 1:=⟨by kernel_rfl⟩
theorem LU:(Tryz.prog.info? 34).map (·.size)=some 1:=by kernel_rfl
theorem Mi:kM Tryz.prog 34 55 12 168:=⟨⟨Tryz.t55, .agg #[.int .i64 0, .slice none 0 0, .bool false, .bool false, .string ByteArray.empty, .string ByteArray.empty, .slice none 0 0, .slice none 0 0, .bool false, .string ByteArray.empty, .int .i64 0, .bool false], Tryz.underlying34, by kernel_rfl, by kernel_rfl, by kernel_rfl, by kernel_rfl, by decide, by kernel_rfl⟩⟩
instance iFO80_4:FO Tryz.prog 80 4 19:=⟨by kernel_rfl⟩
instance iAG34:AS Tryz.prog 34:=⟨by kernel_rfl⟩
theorem JR:LA Tryz.prog 74 0:=fun p1 p2 n c1 k c2 xs ys m w hx hy hr1 hr2 h1 h2 hp1 hcap hs hk hm=>Tryz.bytes_Cut_all p1 p2 n c1 k c2 xs ys m w hx hy hr1 hr2 h1 h2 hp1 hcap hs hk hm
theorem Hf:((Tryz.prog.info? 91).bind (·.zero)).map (·.cells.toList)=some (List.map (Value.int .u8) (List.replicate 16 (0:Int))):=by kernel_rfl
theorem ND:((Tryz.prog.info? 205).bind (·.zero)).map (·.cells.toList)=some (List.map (Value.int .u8) (List.replicate 64 (0:Int))):=by kernel_rfl
theorem Ly:(Tryz.prog.info? 225).bind (·.zero)=some (.agg #[.int .u32 0, .int .u32 0, .int .u32 0, .int .u32 0]):=by kernel_rfl
theorem Lu:((Tryz.prog.info? 225).bind (·.zero)).map (·.cells.toList)=some (List.map (Value.int .u32) (List.replicate 4 (0:Int))):=by kernel_rfl
theorem zL:(Tryz.prog.info? 225).map (·.size)=some 4:=by kernel_rfl
theorem Ni:(Tryz.prog.info? 241).map (·.size)=some 64:=by kernel_rfl
theorem Nh:(Tryz.prog.info? 244).map (·.size)=some 4:=by kernel_rfl
instance iUD105:UD Tryz.prog 105 (.int .u64):=⟨Tryz.underlying105⟩
theorem Dv:(Tryz.prog.info? 91).map (·.size)=some 16:=by kernel_rfl
theorem Nq:(Tryz.prog.info? 205).map (·.size)=some 64:=by kernel_rfl
instance iFO80_1:FO Tryz.prog 80 1 10:=⟨by kernel_rfl⟩
instance iFO30_7:FO Tryz.prog 30 7 9:=⟨by kernel_rfl⟩
theorem qH:(Tryz.prog.info? 122).bind (·.zero)=some (.agg #[.int .i64 0, .string ByteArray.empty, .bool false, .string ByteArray.empty, .string ByteArray.empty, .slice none 0 0]):=by kernel_rfl
theorem xR:∀ fs, Tryz.prog.underlying 122=some (.struct fs)→fs.toList.map (fun f=>(Tryz.prog.info? f.type).map (·.size))=([1, 1, 3, 1]:List Nat).map some:=by
  intro fs h
  rw [Tryz.underlying122] at h
  cases h
  kernel_rfl
theorem km:(Tryz.prog.info? 122).map (·.size)=some 6:=by kernel_rfl
instance iAG122:AA Tryz.prog 122 6:=⟨by kernel_rfl⟩
instance iFO122_0:FO Tryz.prog 122 0 0:=⟨by kernel_rfl⟩
theorem LO:(Tryz.prog.info? 120).bind (·.zero)=some (.slice none 0 0):=by kernel_rfl
theorem NI:(Tryz.prog.info? 120).map (·.size)=some 1:=by kernel_rfl
instance iAG120:AS Tryz.prog 120:=⟨by kernel_rfl⟩
theorem wM:(Tryz.prog.info? 181).bind (·.zero)=some (.agg #[.string ByteArray.empty, .string ByteArray.empty]):=by kernel_rfl
theorem Gi:∀ fs, Tryz.prog.underlying 181=some (.struct fs)→fs.toList.map (fun f=>(Tryz.prog.info? f.type).map (·.size))=([1, 1]:List Nat).map some:=by
  intro fs h
  rw [Tryz.underlying181] at h
  cases h
  kernel_rfl
theorem vf:(Tryz.prog.info? 181).map (·.size)=some 2:=by kernel_rfl
instance iAG181:AA Tryz.prog 181 2:=⟨by kernel_rfl⟩
instance iUD49:UD Tryz.prog 49 (.slice 9):=⟨Tryz.underlying49⟩
instance iSZ9:SZ Tryz.prog 9 1:=⟨by kernel_rfl⟩
instance iUD120:UD Tryz.prog 120 (.slice 181):=⟨Tryz.underlying120⟩
instance iLT_Param:LenE bX.enc 2:=⟨bX.len⟩
instance iFO181_0:FO Tryz.prog 181 0 0:=⟨by kernel_rfl⟩
instance iSZ181:SZ Tryz.prog 181 2:=⟨by kernel_rfl⟩
theorem NC:kM Tryz.prog 120 181 2 32:=⟨⟨Tryz.t181, .agg #[.string ByteArray.empty, .string ByteArray.empty], Tryz.underlying120, by kernel_rfl, by kernel_rfl, by kernel_rfl, by kernel_rfl, by decide, by kernel_rfl⟩⟩
instance iFO122_1:FO Tryz.prog 122 1 1:=⟨by kernel_rfl⟩
instance iFO122_3:FO Tryz.prog 122 3 5:=⟨by kernel_rfl⟩
instance iFO181_1:FO Tryz.prog 181 1 1:=⟨by kernel_rfl⟩
instance iFO122_2:FO Tryz.prog 122 2 2:=⟨by kernel_rfl⟩
instance iFO80_2:FO Tryz.prog 80 2 17:=⟨by kernel_rfl⟩
instance iUD34:UD Tryz.prog 34 (.slice 55):=⟨Tryz.underlying34⟩
instance iLiT_Out:LenI cc.ienc 12:=⟨cc.ilen⟩
instance iSZ55:SZ Tryz.prog 55 12:=⟨by kernel_rfl⟩
instance iFO55_0:FO Tryz.prog 55 0 0:=⟨by kernel_rfl⟩
instance iFO51_0:FO Tryz.prog 51 0 0:=⟨by kernel_rfl⟩
abbrev cq.c (x:cq) (r:List AV):List AV:=vi x.Phase::vs x.Helo::vb x.From.Null::vs x.From.Local::vs x.From.Domain :: .fl .shr 3 (flatten (map bu.enc x.To))::vb x.Quiet::fb x.Buf::vs x.Challenge::vb x.Proved::r
abbrev dw.c (x:dw) (r:List AV):List AV:=vb x.From.Null::vs x.From.Local::vs x.From.Domain :: .fl .shr 3 (flatten (map bu.enc x.To))::fb x.Body::vb x.Quiet::vs x.Helo::vi x.At::r
abbrev co.c (x:co) (r:List AV):List AV:=vs (x.Domains.getD 0 z0)::vs (x.Domains.getD 1 z0)::vi x.Expiry::vs x.User::vs x.Secret::vi x.Log::vb x.Held::r
abbrev dA.c (x:dA) (r:List AV):List AV:=vi x.Kind::vs x.Text::vb x.Path.Null::vs x.Path.Local::vs x.Path.Domain :: .fl .shr 2 (flatten (map bX.enc x.Params))::r
theorem jW (n:Int) (lo:Int) (hi:Int) (r:Bool) (h:Sh.gw n lo hi=some r):eD Tryz.prog 49 [.v (.int .i64 n), .v (.int .i64 lo), .v (.int .i64 hi)] (.v (.bool r)):=by
  unfold Sh.gw at h
  refine yO 15 func49 fun g0 hn hio => ?_
  refine cF hn 1 [0,1,2] ?_
  refine aM ?_
  refine ce h (fun (s1:Bool)=>[(6,vb s1)]) ?_ ?_
  ·rintro s1 h
   refine bb (bO ?_)
   obtain rfl:=zi h
   exact bP hio rfl (.tmp _ _ .nil) rfl rfl
  ·intro u2 h hl3 hr4
   refine bJ h (fun hg1_3 h => ?_) (fun hg1_3 h => ?_)
   ·refine yx hn 4 ?_
    refine yd hg1_3 5 ?_
    refine ye [6] ?_
    exact hl3 _ (zi h).symm
   ·refine yx hn 4 ?_
    refine yd hg1_3 5 ?_
    refine ye [6] ?_
    exact hl3 _ (zi h).symm
theorem jO (c:Int) (r:Bool) (h:Sh.fh c=some r):eD Tryz.prog 50 [.v (.int .u8 c)] (.v (.bool r)):=by
  unfold Sh.fh at h
  refine yO 17 func50 fun g0 hn hio => ?_
  refine cF hn 1 [0] ?_
  refine aM ?_
  refine ce h (fun (s1:Bool)=>[(2,vb s1)]) ?_ ?_
  ·rintro s1 h
   refine bb (bO ?_)
   obtain rfl:=zi h
   exact bP hio rfl (.tmp _ _ .nil) rfl rfl
  ·intro u2 h hl3 hr4
   refine bJ h (fun hg1_2 h => ?_) (fun hg1_2 h => ?_)
   ·refine bJ h (fun hg1_6 h => ?_) (fun hg1_6 h => ?_)
    ·refine yx hn 3 ?_
     refine yd hg1_2 4 ?_
     refine yd hg1_6 8 ?_
     refine ye [2] ?_
     exact hl3 _ (zi h).symm
    ·refine bJ h (fun hg1_9 h => ?_) (fun hg1_9 h => ?_)
     ·refine yx hn 3 ?_
      refine yd hg1_2 4 ?_
      refine yd hg1_6 3 ?_
      refine yd hg1_9 5 ?_
      refine ye [2] ?_
      exact hl3 _ (zi h).symm
     ·refine yx hn 3 ?_
      refine yd hg1_2 4 ?_
      refine yd hg1_6 3 ?_
      refine yd hg1_9 5 ?_
      refine ye [2] ?_
      exact hl3 _ (zi h).symm
   ·refine bJ h (fun hg1_9 h => ?_) (fun hg1_9 h => ?_)
    ·refine yx hn 3 ?_
     refine yd hg1_2 7 ?_
     refine yd hg1_9 5 ?_
     refine ye [2] ?_
     exact hl3 _ (zi h).symm
    ·refine yx hn 3 ?_
     refine yd hg1_2 7 ?_
     refine yd hg1_9 5 ?_
     refine ye [2] ?_
     exact hl3 _ (zi h).symm
theorem nY (c:Int) (r:Bool) (h:Sh.fu c=some r):eD Tryz.prog 51 [.v (.int .u8 c)] (.v (.bool r)):=by
  unfold Sh.fu at h
  refine yO 9 func51 fun g0 hn hio => ?_
  refine cF hn 1 [0] ?_
  refine aM ?_
  refine ce h (fun (s1:Bool)=>[(2,vb s1)]) ?_ ?_
  ·rintro s1 h
   refine bb (bO ?_)
   obtain rfl:=zi h
   exact bP hio rfl (.tmp _ _ .nil) rfl rfl
  ·intro u2 h hl3 hr4
   refine bJ h (fun hg1_2 h => ?_) (fun hg1_2 h => ?_)
   ·refine yx hn 3 ?_
    refine yd hg1_2 4 ?_
    refine ye [2] ?_
    exact hl3 _ (zi h).symm
   ·refine yx hn 3 ?_
    refine yd hg1_2 4 ?_
    refine ye [2] ?_
    exact hl3 _ (zi h).symm
theorem rH (s:ByteArray) (r:Bool) (h:Sh.gZ s=some r):eD Tryz.prog 28 [.v (.string s)] (.v (.bool r)):=by
  unfold Sh.gZ at h
  refine yO 63 func28 fun g0 hn hio => ?_
  refine cF hn 1 [0] ?_
  refine aM ?_
  refine aM ?_
  obtain ⟨v1, hv1, h⟩:=zn h
  refine yx hn 2 ?_
  refine ys 1 ⟨lk call49 (jW _ _ _ _ hv1)⟩ ?_
  refine dv [0,8] ?_
  refine bL _ rfl (fun hb2 => ?_) (fun hb2 => ?_)
  ·have h:=bT hb2 h
   refine cF hn 1 [2] ?_
   refine bO ?_
   refine bw ?_
   obtain rfl:=zi h
   exact bP hio rfl (.tmp _ _ .nil) rfl rfl
  ·have h:=bQ hb2 h
   refine bU ?_
   refine bb ?_
   refine cF hn 1 [0,3] ?_
   refine aM ?_
   refine cF hn 1 [0,3,4] ?_
   refine dx h (fun ((s88,s89):Int×Int)=>[(0,vs s),(3,vi s88),(4,vi s89)]) (fun (():Unit)=>[]) ?_ ?_
   ·rintro ⟨⟩ h
    refine bb ?_
    refine cF hn 1 [2] ?_
    refine bO ?_
    obtain rfl:=zi h
    exact bP hio rfl (.tmp _ _ .nil) rfl rfl
   ·rintro u125 hl126 hr127 ⟨s88, s89⟩ rr130 h ho128
    refine aM ?_
    refine cF hn 4 [0,3,4,12] ?_
    refine bL _ rfl (fun hb131 => ?_) (fun hb131 => ?_)
    ·have h:=bT hb131 h
     refine bU ?_
     refine bb (aM ?_)
     refine ce h (fun (s147:Int)=>[(0,vs s),(3,vi s147),(4,vi s89)]) ?_ ?_
     ·rintro s147 h
      refine bb ?_
      obtain ⟨v50, hv50, h⟩:=zn h
      refine yx hn 1 ?_
      refine ys 0 ⟨lb hv50⟩ ?_
      refine yw [4] 1 ?_
      refine ye [0,3,4] ?_
      exact dM _ (zi h).symm rfl
     ·intro u148 h hl149 hr150
      refine cA ?_
      refine aM ?_
      refine aM ?_
      refine ce h (fun (s151:Bool)=>[(0,vs s),(3,vi s88),(4,vi s89),(24,vb s151)]) ?_ ?_
      ·rintro s151 h
       refine bb ?_
       refine bL _ rfl (fun hb155 => ?_) (fun hb155 => ?_)
       ·have h:=bT hb155 h
        refine aM ?_
        refine aM ?_
        refine ce h (fun (s156:Bool)=>[(0,vs s),(3,vi s88),(4,vi s89),(42,vb s156)]) ?_ ?_
        ·rintro s156 h
         refine bb ?_
         refine bL _ rfl (fun hb160 => ?_) (fun hb160 => ?_)
         ·have h:=bT hb160 h
          refine cF hn 1 [2] ?_
          refine bO ?_
          refine bw ?_
          refine bw ?_
          refine cC ?_
          refine bw ?_
          refine bw ?_
          refine cC ?_
          refine bw ?_
          have h:=hr150 _ (zi h).symm
          have h:=hr127 _ (ho128 _ (zi h).symm).symm
          obtain rfl:=zi h
          exact bP hio rfl (.tmp _ _ .nil) rfl rfl
         ·have h:=bQ hb160 h
          refine bU ?_
          refine bb ?_
          refine dK ?_
          refine cd ?_
          refine dL ?_
          refine bG [0,1,2] (by kernel_rfl) (es':=[(_,_),(_,_),(_,_)]) rfl ?_
          exact hl149 _ (zi h).symm
        ·intro u157 h hl158 hr159
         obtain ⟨v10, hv10, h⟩:=zn h
         obtain ⟨v11, hv11, h⟩:=zn h
         refine bJ h (fun hg8_5 h => ?_) (fun hg8_5 h => ?_)
         ·obtain ⟨v12, hv12, h⟩:=zn h
          obtain ⟨v13, hv13, h⟩:=zn h
          refine bJ h (fun hg8_12 h => ?_) (fun hg8_12 h => ?_)
          ·obtain ⟨v14, hv14, h⟩:=zn h
           refine yx hn 2 ?_
           refine ys 0 ⟨lh hv10⟩ ?_
           refine ys 2 ⟨lk call50 (jO _ _ hv11)⟩ ?_
           refine yd hg8_5 2 ?_
           refine ys 0 ⟨lh hv12⟩ ?_
           refine ys 3 ⟨lk call51 (nY _ _ hv13)⟩ ?_
           refine yd hg8_12 2 ?_
           refine ys 2 ⟨lh hv14⟩ ?_
           refine ye [0,3,4,42] ?_
           exact hl158 _ (zi h).symm
          ·refine yx hn 2 ?_
           refine ys 0 ⟨lh hv10⟩ ?_
           refine ys 2 ⟨lk call50 (jO _ _ hv11)⟩ ?_
           refine yd hg8_5 2 ?_
           refine ys 0 ⟨lh hv12⟩ ?_
           refine ys 3 ⟨lk call51 (nY _ _ hv13)⟩ ?_
           refine yd hg8_12 5 ?_
           refine ye [0,3,4,42] ?_
           exact hl158 _ (zi h).symm
         ·refine yx hn 2 ?_
          refine ys 0 ⟨lh hv10⟩ ?_
          refine ys 2 ⟨lk call50 (jO _ _ hv11)⟩ ?_
          refine yd hg8_5 12 ?_
          refine ye [0,3,4,42] ?_
          exact hl158 _ (zi h).symm
       ·have h:=bQ hb155 h
        refine bU ?_
        refine bb (aM ?_)
        refine aM ?_
        refine ce h (fun (s161:Bool)=>[(0,vs s),(4,vi s89),(60,vb s161)]) ?_ ?_
        ·rintro s161 h
         refine bb ?_
         refine bL _ rfl (fun hb165 => ?_) (fun hb165 => ?_)
         ·have h:=bT hb165 h
          refine cF hn 1 [2] ?_
          refine bO ?_
          refine bw ?_
          refine cC ?_
          refine bw ?_
          refine bw ?_
          refine cC ?_
          refine bw ?_
          have h:=hr150 _ (zi h).symm
          have h:=hr127 _ (ho128 _ (zi h).symm).symm
          obtain rfl:=zi h
          exact bP hio rfl (.tmp _ _ .nil) rfl rfl
         ·have h:=bQ hb165 h
          refine bU ?_
          refine bb ?_
          obtain ⟨v30, hv30, h⟩:=zn h
          refine yx hn 1 ?_
          refine ys 1 ⟨lb hv30⟩ ?_
          refine ye [0,4,3] ?_
          refine cG ?_
          refine bG [0,2,1] (by kernel_rfl) (es':=[(_,_),(_,_),(_,_)]) rfl ?_
          exact hl149 _ (zi h).symm
        ·intro u162 h hl163 hr164
         obtain ⟨v20, hv20, h⟩:=zn h
         obtain ⟨v21, hv21, h⟩:=zn h
         refine bJ h (fun hg10_5 h => ?_) (fun hg10_5 h => ?_)
         ·refine yx hn 2 ?_
          refine ys 0 ⟨lb hv20⟩ ?_
          refine ys 2 ⟨lk call49 (jW _ _ _ _ hv21)⟩ ?_
          refine yd hg10_5 12 ?_
          refine ye [0,4,60] ?_
          exact hl163 _ (zi h).symm
         ·obtain ⟨v22, hv22, h⟩:=zn h
          refine bJ h (fun hg10_11 h => ?_) (fun hg10_11 h => ?_)
          ·refine yx hn 2 ?_
           refine ys 0 ⟨lb hv20⟩ ?_
           refine ys 2 ⟨lk call49 (jW _ _ _ _ hv21)⟩ ?_
           refine yd hg10_5 2 ?_
           refine ys 3 ⟨lh hv22⟩ ?_
           refine yd hg10_11 6 ?_
           refine ye [0,4,60] ?_
           exact hl163 _ (zi h).symm
          ·obtain ⟨v23, hv23, h⟩:=zn h
           obtain ⟨v24, hv24, h⟩:=zn h
           refine yx hn 2 ?_
           refine ys 0 ⟨lb hv20⟩ ?_
           refine ys 2 ⟨lk call49 (jW _ _ _ _ hv21)⟩ ?_
           refine yd hg10_5 2 ?_
           refine ys 3 ⟨lh hv22⟩ ?_
           refine yd hg10_11 2 ?_
           refine ys 0 ⟨lb hv23⟩ ?_
           refine ys 2 ⟨lh hv24⟩ ?_
           refine ye [0,4,60] ?_
           exact hl163 _ (zi h).symm
      ·intro u152 h hl153 hr154
       refine bJ h (fun hg7_4 h => ?_) (fun hg7_4 h => ?_)
       ·obtain ⟨v4, hv4, h⟩:=zn h
        refine yx hn 5 ?_
        refine yd hg7_4 2 ?_
        refine ys 2 ⟨lh hv4⟩ ?_
        refine ye [0,3,4,24] ?_
        exact hl153 _ (zi h).symm
       ·refine yx hn 5 ?_
        refine yd hg7_4 5 ?_
        refine ye [0,3,4,24] ?_
        exact hl153 _ (zi h).symm
    ·have h:=bQ hb131 h
     refine dK ?_
     refine cd ?_
     refine cd ?_
     refine dL ?_
     refine bG [] (by kernel_rfl) (es':=[]) rfl ?_
     exact hl126 _ (ho128 _ (zi h).symm).symm
theorem gG (r:co) (h:Sh.ga  = some r):eD Tryz.prog 20 [] (.agg [.v (.string ((r.Domains.getD 0 (⟨#[]⟩:ByteArray)))), .v (.string ((r.Domains.getD 1 (⟨#[]⟩:ByteArray)))), .v (.int .i64 r.Expiry), .v (.string r.User), .v (.string r.Secret), .v (.int .i64 r.Log), .v (.bool r.Held)]):=by
  unfold Sh.ga at h
  refine yO 3 func20 fun g0 hn hio => ?_
  refine lp hn 0 ?_
  refine yS (.box 24 [vs z0,vs z0,vi 0,vs z0,vs z0,vi 0,vb false]) 0 ⟨oA (dh _ _ Nk)⟩ ?_
  refine dv [0] ?_
  refine lp hn 0 ?_
  refine yS (.agg [vs (⟨#[97]⟩:ByteArray),vs (⟨#[98]⟩:ByteArray)]) 0 ⟨zT _ _ (.agg #[.string ByteArray.empty,.string ByteArray.empty]) (map Value.string (([(⟨#[97]⟩:ByteArray),(⟨#[98]⟩:ByteArray)]:List ByteArray))) [(0,.string (⟨#[97]⟩:ByteArray)),(1,.string (⟨#[98]⟩:ByteArray))] underlying22 Am OO (fun _ V w o a hv hes=>by simp only [List.map_toArray,List.map_cons,List.map_nil]; try rfl) (fT (by simp [Instr.fill,Value.cells]; rfl) (by simp)) rfl⟩ ?_
  refine yS (.agg [vs (⟨#[97]⟩:ByteArray),vs (⟨#[98]⟩:ByteArray),vi 9,vs (⟨#[117]⟩:ByteArray),vs (⟨#[115]⟩:ByteArray),vi 9000,vb false]) 1 ⟨dQ _ _ _ _ [2,1,1,1,1,1] _ _ underlying24 Nk (Pn _ underlying24) (.copy _ (.copy _ (.copy _ (.copy _ (.copy _ rE.nil))))) rfl rfl rfl⟩ ?_
  refine dv [0] ?_
  refine bO ?_
  obtain rfl:=zi h
  exact bP hio rfl (.cellA _ _ _ _ underlying24 rfl Nf .nil) rfl rfl
theorem wC (challenge:ByteArray) (r:cq) (h:Sh.va challenge=some r):eD Tryz.prog 22 [.v (.string challenge)] (.agg [.v (.int .i64 r.Phase), .v (.string r.Helo), .v (.bool r.From.Null), .v (.string r.From.Local), .v (.string r.From.Domain), .fl (.own 26) 3 (flatten (map bu.enc r.To)), .v (.bool r.Quiet), .fl (.own 5) 1 (map (int .u8) r.Buf), .v (.string r.Challenge), .v (.bool r.Proved)]):=by
  unfold Sh.va at h
  refine yO 5 func22 fun g0 hn hio => ?_
  refine lp hn 0 ?_
  refine yS (.box 30 [vi 0,vs z0,vb false,vs z0,vs z0,vz,vb false,vz,vs z0,vb false]) 0 ⟨oA (dh _ _ Ao)⟩ ?_
  refine dv [0,2] ?_
  refine lp hn 1 ?_
  refine yS (.agg [vi 0,vs z0,vb false,vs z0,vs z0,vz,vb false,vz,vs challenge,vb false]) 1 ⟨dQ _ _ _ _ [1,1,3,1,1,1,1,1] _ _ underlying30 Ao (MD _ underlying30) (.copy _ (.copy _ rE.nil)) rfl rfl rfl⟩ ?_
  refine dv [2] ?_
  refine bO ?_
  refine fe (fs:=[(2,.box 30 [vi 0,vs z0,vb false,vs z0,vs z0,.fl (.own 26) 3 (flatten (map bu.enc [])),vb false,.fl (.own 5) 1 (map (int .u8) []),vs challenge,vb false])]) (.box _ _ (bq (bI _) (bq (bI _) (bq (bI _) (bq (bI _) (bq (bI _) (bq (ek 26 3) (bq (bI _) (bq (ek 5 1) (bq (bI _) (bq (bI _) (dO))))))))))) rfl .nil) ?_
  obtain rfl:=zi h
  exact bP hio rfl (.cellA _ _ _ _ underlying30 rfl uu .nil) rfl rfl
theorem rF (n:Int) (r:ByteArray) (h:Sh.gh n=some r):eD Tryz.prog 31 [.v (.int .i64 n)] (.v (.string r)):=by
  unfold Sh.gh at h
  refine yO 22 func31 fun g0 hn hio => ?_
  refine cF hn 1 [0] ?_
  refine cF hn 1 [0,3] ?_
  refine aM ?_
  refine dx h (fun ((s11,s12):Int×ByteArray)=>[(0,vi s11),(3,vs s12)]) (fun ((s14,s15):Int×ByteArray)=>[(0,vi s14),(3,vs s15)]) ?_ ?_
  ·rintro ⟨s14, s15⟩ h
   refine bb (aM ?_)
   obtain ⟨v23, hv23, h⟩:=zn h
   obtain ⟨v24, hv24, h⟩:=zn h
   obtain ⟨v25, hv25, h⟩:=zn h
   refine yx hn 2 ?_
   refine ys 0 ⟨lb hv23⟩ ?_
   refine yS (vs v24) 1 ⟨fj _ _ _ s14 v23 _ underlying9 rfl ⟨_,rfl⟩ ⟨_,rfl⟩ hv24⟩ ?_
   refine ys 1 ⟨lB (ie hv25)⟩ ?_
   refine dv [2] ?_
   refine bO ?_
   obtain rfl:=zi h
   exact bP hio rfl (.tmp _ _ .nil) rfl rfl
  ·rintro u16 hl17 hr18 ⟨s11, s12⟩ rr21 h ho19
   refine aM ?_
   refine cF hn 2 [0,3,5] ?_
   refine bL _ rfl (fun hb22 => ?_) (fun hb22 => ?_)
   ·have h:=bT hb22 h
    refine bU ?_
    refine bb ?_
    refine cA ?_
    refine aM ?_
    obtain ⟨v2, hv2, h⟩:=zn h
    obtain ⟨v3, hv3, h⟩:=zn h
    obtain ⟨v4, hv4, h⟩:=zn h
    obtain ⟨v5, hv5, h⟩:=zn h
    obtain ⟨v6, hv6, h⟩:=zn h
    refine yx hn 1 ?_
    refine ys 1 ⟨lB (oH hv2)⟩ ?_
    refine ys 0 ⟨lB (oH hv3)⟩ ?_
    refine ys 0 ⟨lb hv4⟩ ?_
    refine yS (vs v5) 1 ⟨fj _ _ _ v2 v4 _ underlying9 rfl ⟨_,rfl⟩ ⟨_,rfl⟩ hv5⟩ ?_
    refine ys 0 ⟨lB (ie hv6)⟩ ?_
    refine yw [3] 1 ?_
    refine dv [0,3] ?_
    obtain ⟨v7, hv7, h⟩:=zn h
    refine yx hn 1 ?_
    refine ys 0 ⟨lB (vJ hv7)⟩ ?_
    refine yw [0] 1 ?_
    refine ye [3,0] ?_
    refine cG ?_
    refine bG [1,0] (by kernel_rfl) (es':=[(_,_),(_,_)]) rfl ?_
    exact dM _ (zi h).symm rfl
   ·have h:=bQ hb22 h
    refine dK ?_
    refine cd ?_
    refine cd ?_
    refine dL ?_
    refine bG [0,1] (by kernel_rfl) (es':=[(_,_),(_,_)]) rfl ?_
    exact hl17 _ (ho19 _ (zi h).symm).symm
theorem tw (s:ByteArray) (sep:ByteArray) (sepSave:Int) (r:(ByteArray×ByteArray×Int)) (h:Sh.nh s sep sepSave=some r):eD Tryz.prog 93 [.v (.string s), .v (.string sep), .v (.int .i64 sepSave)] (.cloB 119 [.box 9 [.v (.string r.1)], .box 9 [.v (.string r.2.1)], .box 3 [.v (.int .i64 r.2.2)]]):=by
  unfold Sh.nh at h
  refine yO 8 func93 fun g0 hn hio => ?_
  refine cF hn 4 [3,4,5] ?_
  refine lp hn 0 ?_
  refine yk [4,3,5] [] ?_
  refine yt (7,.cloB 119 [.box 9 [vs sep],.box 9 [vs s],.box 3 [vi sepSave]]) 0 ⟨Dz _ _ [4,3,5] [.box 9 [vs sep],.box 9 [vs s],.box 3 [vi sepSave]] rfl rfl rfl⟩ ?_
  refine ya 0 ?_
  refine dv [6] ?_
  refine bO ?_
  obtain rfl:=zi h
  exact bP hio rfl (.tmp _ _ .nil) rfl rfl
theorem kR (s:ByteArray) (sep:ByteArray) (r:(ByteArray×ByteArray×Int)) (h:Sh.gX s sep=some r):eD Tryz.prog 80 [.v (.string s), .v (.string sep)] (.cloB 119 [.box 9 [.v (.string r.1)], .box 9 [.v (.string r.2.1)], .box 3 [.v (.int .i64 r.2.2)]]):=by
  unfold Sh.gX at h
  refine yO 8 func80 fun g0 hn hio => ?_
  refine cF hn 1 [0,1] ?_
  refine aM ?_
  obtain ⟨v1, hv1, h⟩:=zn h
  refine yx hn 2 ?_
  refine yk [] [5,6] ?_
  refine yt (7,.cloB 119 [.box 9 [vs v1.1],.box 9 [vs v1.2.1],.box 3 [vi v1.2.2]]) 0 ⟨ld _ _ 93 _ _ rfl call93 rfl rfl (tw s sep 0 _ hv1) rfl⟩ ?_
  refine ya 0 ?_
  refine dv [4] ?_
  refine bO ?_
  obtain rfl:=zi h
  exact bP hio rfl (.tmp _ _ .nil) rfl rfl
theorem ke (mx:Int×Nat×Value) (s:ByteArray) (r:(Int×Int)) (h:Sh.eW s=some r):lX Tryz.prog (GL mx) 142 [.v (.string s)] (.tup [.v (.int .i32 r.1), .v (.int .i64 r.2)]):=by
  unfold Sh.eW at h
  refine yG 117 func142 fun g0 hn hio => ?_
  refine cF hn 2 [0,117] ?_
  refine cF hn 3 [0,117,4] ?_
  refine aM ?_
  refine cF hn 2 [0,117,4,16] ?_
  refine bL _ rfl (fun hb1 => ?_) (fun hb1 => ?_)
  ·have h:=bT hb1 h
   refine cF hn 2 [117,2,3] ?_
   refine bO ?_
   refine bG [1,2] (by kernel_rfl) (es':=[(_,_),(_,_)]) rfl ?_
   refine bw ?_
   obtain rfl:=zi h
   exact bP hio rfl (.tmp _ _ (.tmp _ _ .nil)) rfl rfl
  ·have h:=bQ hb1 h
   refine bU ?_
   refine bb (aM ?_)
   obtain ⟨v2, hv2, h⟩:=zn h
   refine yx hn 1 ?_
   refine ys 1 ⟨lh hv2⟩ ?_
   refine dv [0,117,4,5] ?_
   refine aM ?_
   obtain ⟨v3, hv3, h⟩:=zn h
   obtain ⟨v4, hv4, h⟩:=zn h
   refine yx hn 1 ?_
   refine yS (.v (.pointer (some ⟨1,(0+v3 * 1),none⟩))) 0 ⟨sM _ _ _ _ 256 1 0 _ 1 _ underlying184 qp rfl rfl (dR hv3).1 (dR hv3).2⟩ ?_
   refine yS (.v (.int .u8 v4)) 1 ⟨qS _ _ 117 1 _ _ _ underlying5 rfl rfl rfl (Gt mx) (gr hv4)⟩ ?_
   refine dv [0,117,4,5,6] ?_
   refine aM ?_
   refine cF hn 2 [0,117,4,5,6,23] ?_
   refine bL _ rfl (fun hb5 => ?_) (fun hb5 => ?_)
   ·have h:=bT hb5 h
    refine aM ?_
    obtain ⟨v6, hv6, h⟩:=zn h
    obtain ⟨v7, hv7, h⟩:=zn h
    obtain ⟨v8, hv8, h⟩:=zn h
    refine yx hn 1 ?_
    refine ys 0 ⟨lv hv6⟩ ?_
    refine ys 0 ⟨lB (wg hv7)⟩ ?_
    refine ys 1 ⟨lB (rk hv8)⟩ ?_
    refine dv [0,117,7] ?_
    refine aM ?_
    obtain ⟨v9, hv9, h⟩:=zn h
    obtain ⟨v10, hv10, h⟩:=zn h
    obtain ⟨v11, hv11, h⟩:=zn h
    obtain ⟨v12, hv12, h⟩:=zn h
    obtain ⟨v13, hv13, h⟩:=zn h
    refine yx hn 1 ?_
    refine ys 0 ⟨lh hv9⟩ ?_
    refine ys 1 ⟨lv hv10⟩ ?_
    refine ys 1 ⟨lb hv11⟩ ?_
    refine ys 0 ⟨lb hv12⟩ ?_
    refine ys 2 ⟨lb hv13⟩ ?_
    refine dv [117,2,3] ?_
    refine bO ?_
    refine bG [1,2] (by kernel_rfl) (es':=[(_,_),(_,_)]) rfl ?_
    refine bw ?_
    obtain rfl:=zi h
    exact bP hio rfl (.tmp _ _ (.tmp _ _ .nil)) rfl rfl
   ·have h:=bQ hb5 h
    cases h
theorem ly (mx:Int×Nat×Value) (s:ByteArray) (r:(Int×Int)) (h:Sh.fN s=some r):lX Tryz.prog (GL mx) 120 [.v (.string s)] (.tup [.v (.int .i32 r.1), .v (.int .i64 r.2)]):=by
  unfold Sh.fN at h
  refine yG 19 func120 fun g0 hn hio => ?_
  refine cF hn 2 [0,19] ?_
  refine aM ?_
  refine aM ?_
  refine ce h (fun (s2:Bool)=>[(0,vs s),(19,.glob (GL mx)),(10,vb s2)]) ?_ ?_
  ·rintro s2 h
   refine bb ?_
   refine bL _ rfl (fun hb6 => ?_) (fun hb6 => ?_)
   ·have h:=bT hb6 h
    refine aM ?_
    obtain ⟨v7, hv7, h⟩:=zn h
    obtain ⟨v8, hv8, h⟩:=zn h
    refine yx hn 1 ?_
    refine ys 0 ⟨lh hv7⟩ ?_
    refine ys 2 ⟨lv hv8⟩ ?_
    refine dv [19,2,3] ?_
    refine bO ?_
    refine bG [1,2] (by kernel_rfl) (es':=[(_,_),(_,_)]) rfl ?_
    refine bw ?_
    obtain rfl:=zi h
    exact bP hio rfl (.tmp _ _ (.tmp _ _ .nil)) rfl rfl
   ·have h:=bQ hb6 h
    obtain ⟨v9, hv9, h⟩:=zn h
    refine yx hn 1 ?_
    refine ys 0 ⟨lg call142 (ke _ _ _ hv9) 19⟩ ?_
    refine ym 4 ?_
    refine dv [19,2,3] ?_
    refine bO ?_
    refine bG [1,2] (by kernel_rfl) (es':=[(_,_),(_,_)]) rfl ?_
    obtain rfl:=zi h
    exact bP hio rfl (.tmp _ _ (.tmp _ _ .nil)) rfl rfl
  ·intro u3 h hl4 hr5
   refine bJ h (fun hg1_2 h => ?_) (fun hg1_2 h => ?_)
   ·obtain ⟨v1, hv1, h⟩:=zn h
    refine yx hn 3 ?_
    refine yd hg1_2 1 ?_
    refine ys 2 ⟨lh hv1⟩ ?_
    refine ye [0,19,10] ?_
    exact hl4 _ (zi h).symm
   ·refine yx hn 3 ?_
    refine yd hg1_2 4 ?_
    refine ye [0,19,10] ?_
    exact hl4 _ (zi h).symm
theorem qz (s sub:ByteArray) (r:Int) (h:Sh.ft s sub=some r):eD Tryz.prog 121 [.v (.string s), .v (.string sub)] (.v (.int .i64 r)):=pN Tryz.strings_Index_one s sub r h
theorem jQ (mx:Int×Nat×Value) (l:Nat) {S:Type} (J:S→qd) (Y:ByteArray→S→Option (S×Bool)) (hY:vh Tryz.prog l (fun x => .v (.string x)) Y J) (c0:ByteArray) (c1:ByteArray) (c2:Int) (st r:S) (h:Sh.eu Y c0 c1 c2 st=some r):MW Tryz.prog (GL mx) 119 l [.box 9 [.v (.string c0)], .box 9 [.v (.string c1)], .box 3 [.v (.int .i64 c2)]] (J st) (J r):=by
  unfold Sh.eu at h
  refine yI 52 func119 fun g0 hn hio => ?_
  refine aM ?_
  refine cF hn 3 [0,1,2,3,52,53,11] ?_
  refine bL _ rfl (fun hb1 => ?_) (fun hb1 => ?_)
  ·have h:=bT hb1 h
   refine aM ?_
   refine nH [0,2,4,5] (by kernel_rfl) (es':=[(_,_),(_,_),(_,_),(_,_)]) rfl ?_
   refine dx h (fun ((s12,s13):ByteArray×S)=>[(0,.v (.func (.yield l) #[] #[])),(2,.box 9 [vs s12]),(52,.glob (GL mx)),(53,.inv (J s13))]) (fun (s16:S)=>[(52,.glob (GL mx)),(53,.inv (J s16))]) ?_ ?_
   ·rintro s16 h
    refine bb (bO ?_)
    refine bG [1] (by kernel_rfl) (es':=[(53,.inv (J s16))]) rfl ?_
    refine bw ?_
    obtain rfl:=zi h
    exact xt hio rfl rfl rfl
   ·rintro u17 hl18 hr19 ⟨s12, s13⟩ rr22 h ho20
    refine aM ?_
    refine cF hn 3 [0,2,52,53,14] ?_
    refine bL _ rfl (fun hb23 => ?_) (fun hb23 => ?_)
    ·have h:=bT hb23 h
     refine bU ?_
     refine bb ?_
     refine cA ?_
     refine aM ?_
     obtain ⟨v3, hv3, h⟩:=zn h
     refine yx hn 1 ?_
     refine ys 0 ⟨lg call120 (ly _ _ _ hv3) 52⟩ ?_
     refine ym 4 ?_
     refine dv [0,2,52,53,6] ?_
     refine aM ?_
     refine aM ?_
     obtain ⟨v4, hv4, h⟩:=zn h
     obtain ⟨v5, hv5, h⟩:=zn h
     refine yx hn 3 ?_
     refine yS (vs v4) 0 ⟨fj _ _ _ 0 v3.2 _ underlying9 rfl rfl ⟨_,rfl⟩ hv4⟩ ?_
     refine yk [53] [23,20] ?_
     refine tg (53,.inv (J v5.1)) (24,vb v5.2) 1 ⟨uE _ _ 53 l v4 s13 v5 hY hv5 rfl rfl rfl⟩ ?_
     refine dv [0,2,52,53,6,25] ?_
     refine bL _ rfl (fun hb24 => ?_) (fun hb24 => ?_)
     ·have h:=bT hb24 h
      refine bO ?_
      refine bG [3] (by kernel_rfl) (es':=[(53,.inv (J v5.1))]) rfl ?_
      refine bw ?_
      refine cC ?_
      refine bw ?_
      refine cC ?_
      refine bw ?_
      refine bw ?_
      have h:=hr19 _ (ho20 _ (zi h).symm).symm
      obtain rfl:=zi h
      exact xt hio rfl rfl rfl
     ·have h:=bQ hb24 h
      refine bU ?_
      refine bb ?_
      obtain ⟨v7, hv7, h⟩:=zn h
      refine yx hn 2 ?_
      refine yS (vs v7) 1 ⟨fj _ _ _ v3.2 (s12.size:Int) _ underlying9 rfl ⟨_,rfl⟩ rfl hv7⟩ ?_
      refine ye [0,2,52,53] ?_
      refine cG ?_
      exact dM _ (zi h).symm rfl
    ·have h:=bQ hb23 h
     refine dK ?_
     refine cd ?_
     refine cd ?_
     refine dL ?_
     refine bG [2,3] (by kernel_rfl) (es':=[(_,_),(_,_)]) rfl ?_
     exact hl18 _ (ho20 _ (zi h).symm).symm
  ·have h:=bQ hb1 h
   refine bU ?_
   refine bb (aM ?_)
   refine nH [0,1,2,3,4,5] (by kernel_rfl) (es':=[(_,_),(_,_),(_,_),(_,_),(_,_),(_,_)]) rfl ?_
   refine dx h (fun ((s37,s38):ByteArray×S)=>[(0,.v (.func (.yield l) #[] #[])),(1,.box 9 [vs c0]),(2,.box 9 [vs s37]),(3,.box 3 [vi c2]),(52,.glob (GL mx)),(53,.inv (J s38))]) (fun ((s41,s42):ByteArray×S)=>[(0,.v (.func (.yield l) #[] #[])),(2,.box 9 [vs s41]),(52,.glob (GL mx)),(53,.inv (J s42))]) ?_ ?_
   ·rintro ⟨s41, s42⟩ h
    refine bb ?_
    obtain ⟨v51, hv51, h⟩:=zn h
    refine yx hn 2 ?_
    refine yk [53] [50,49] ?_
    refine tg (53,.inv (J v51.1)) (51,vb v51.2) 0 ⟨uE _ _ 53 l s41 s42 v51 hY hv51 rfl rfl rfl⟩ ?_
    refine ye [52,53] ?_
    refine bG [1] (by kernel_rfl) (es':=[(53,.inv (J v51.1))]) rfl ?_
    obtain rfl:=zi h
    exact Kw hio rfl rfl rfl
   ·rintro u43 hl44 hr45 ⟨s37, s38⟩ rr48 h ho46
    refine cA ?_
    refine aM ?_
    obtain ⟨v25, hv25, h⟩:=zn h
    refine yx hn 2 ?_
    refine ys 1 ⟨lk call121 (qz _ _ _ hv25)⟩ ?_
    refine dv [0,1,2,3,52,53,7] ?_
    refine aM ?_
    refine cF hn 2 [0,1,2,3,52,53,7,33] ?_
    refine bL _ rfl (fun hb49 => ?_) (fun hb49 => ?_)
    ·have h:=bT hb49 h
     refine dK ?_
     refine cd ?_
     refine EP (by decide) ?_
     refine cd ?_
     refine dL ?_
     refine bG [0,2,4,5] (by kernel_rfl) (es':=[(_,_),(_,_),(_,_),(_,_)]) rfl ?_
     exact hl44 _ (ho46 _ (zi h).symm).symm
    ·have h:=bQ hb49 h
     refine bU ?_
     refine bb (aM ?_)
     obtain ⟨v27, hv27, h⟩:=zn h
     obtain ⟨v28, hv28, h⟩:=zn h
     refine yx hn 3 ?_
     refine ys 0 ⟨lb hv27⟩ ?_
     refine yS (vs v28) 1 ⟨fj _ _ _ 0 v27 _ underlying9 rfl rfl ⟨_,rfl⟩ hv28⟩ ?_
     refine dv [0,1,2,3,52,53,7,8] ?_
     refine aM ?_
     refine aM ?_
     obtain ⟨v29, hv29, h⟩:=zn h
     refine yx hn 2 ?_
     refine yk [53] [40,39] ?_
     refine tg (53,.inv (J v29.1)) (41,vb v29.2) 1 ⟨uE _ _ 53 l v28 s38 v29 hY hv29 rfl rfl rfl⟩ ?_
     refine dv [0,1,2,3,52,53,7,42] ?_
     refine bL _ rfl (fun hb50 => ?_) (fun hb50 => ?_)
     ·have h:=bT hb50 h
      refine bO ?_
      refine bG [5] (by kernel_rfl) (es':=[(53,.inv (J v29.1))]) rfl ?_
      refine bw ?_
      refine cC ?_
      refine bw ?_
      refine cC ?_
      refine bw ?_
      have h:=hr45 _ (ho46 _ (zi h).symm).symm
      obtain rfl:=zi h
      exact xt hio rfl rfl rfl
     ·have h:=bQ hb50 h
      refine bU ?_
      refine bb ?_
      obtain ⟨v31, hv31, h⟩:=zn h
      obtain ⟨v32, hv32, h⟩:=zn h
      refine yx hn 4 ?_
      refine ys 0 ⟨lb hv31⟩ ?_
      refine yS (vs v32) 1 ⟨fj _ _ _ v31 (s37.size:Int) _ underlying9 rfl ⟨_,rfl⟩ rfl hv32⟩ ?_
      refine ye [0,1,2,3,52,53] ?_
      refine cG ?_
      exact dM _ (zi h).symm rfl
theorem iz (c:Int) (r:Bool) (h:Sh.jU c=some r):eD Tryz.prog 83 [.v (.int .u8 c)] (.v (.bool r)):=by
  unfold Sh.jU at h
  refine yO 25 func83 fun g0 hn hio => ?_
  refine cF hn 1 [0] ?_
  refine aM ?_
  refine ce h (fun (s1:Bool)=>[(2,vb s1)]) ?_ ?_
  ·rintro s1 h
   refine bb (bO ?_)
   obtain rfl:=zi h
   exact bP hio rfl (.tmp _ _ .nil) rfl rfl
  ·intro u2 h hl3 hr4
   refine bJ h (fun hg1_2 h => ?_) (fun hg1_2 h => ?_)
   ·refine bJ h (fun hg1_6 h => ?_) (fun hg1_6 h => ?_)
    ·refine yx hn 3 ?_
     refine yd hg1_2 4 ?_
     refine yd hg1_6 16 ?_
     refine ye [2] ?_
     exact hl3 _ (zi h).symm
    ·refine bJ h (fun hg1_9 h => ?_) (fun hg1_9 h => ?_)
     ·refine bJ h (fun hg1_14 h => ?_) (fun hg1_14 h => ?_)
      ·refine yx hn 3 ?_
       refine yd hg1_2 4 ?_
       refine yd hg1_6 3 ?_
       refine yd hg1_9 5 ?_
       refine yd hg1_14 8 ?_
       refine ye [2] ?_
       exact hl3 _ (zi h).symm
      ·refine bJ h (fun hg1_17 h => ?_) (fun hg1_17 h => ?_)
       ·refine yx hn 3 ?_
        refine yd hg1_2 4 ?_
        refine yd hg1_6 3 ?_
        refine yd hg1_9 5 ?_
        refine yd hg1_14 3 ?_
        refine yd hg1_17 5 ?_
        refine ye [2] ?_
        exact hl3 _ (zi h).symm
       ·refine yx hn 3 ?_
        refine yd hg1_2 4 ?_
        refine yd hg1_6 3 ?_
        refine yd hg1_9 5 ?_
        refine yd hg1_14 3 ?_
        refine yd hg1_17 5 ?_
        refine ye [2] ?_
        exact hl3 _ (zi h).symm
     ·refine bJ h (fun hg1_17 h => ?_) (fun hg1_17 h => ?_)
      ·refine yx hn 3 ?_
       refine yd hg1_2 4 ?_
       refine yd hg1_6 3 ?_
       refine yd hg1_9 8 ?_
       refine yd hg1_17 5 ?_
       refine ye [2] ?_
       exact hl3 _ (zi h).symm
      ·refine yx hn 3 ?_
       refine yd hg1_2 4 ?_
       refine yd hg1_6 3 ?_
       refine yd hg1_9 8 ?_
       refine yd hg1_17 5 ?_
       refine ye [2] ?_
       exact hl3 _ (zi h).symm
   ·refine bJ h (fun hg1_9 h => ?_) (fun hg1_9 h => ?_)
    ·refine bJ h (fun hg1_14 h => ?_) (fun hg1_14 h => ?_)
     ·refine yx hn 3 ?_
      refine yd hg1_2 7 ?_
      refine yd hg1_9 5 ?_
      refine yd hg1_14 8 ?_
      refine ye [2] ?_
      exact hl3 _ (zi h).symm
     ·refine bJ h (fun hg1_17 h => ?_) (fun hg1_17 h => ?_)
      ·refine yx hn 3 ?_
       refine yd hg1_2 7 ?_
       refine yd hg1_9 5 ?_
       refine yd hg1_14 3 ?_
       refine yd hg1_17 5 ?_
       refine ye [2] ?_
       exact hl3 _ (zi h).symm
      ·refine yx hn 3 ?_
       refine yd hg1_2 7 ?_
       refine yd hg1_9 5 ?_
       refine yd hg1_14 3 ?_
       refine yd hg1_17 5 ?_
       refine ye [2] ?_
       exact hl3 _ (zi h).symm
    ·refine bJ h (fun hg1_17 h => ?_) (fun hg1_17 h => ?_)
     ·refine yx hn 3 ?_
      refine yd hg1_2 7 ?_
      refine yd hg1_9 8 ?_
      refine yd hg1_17 5 ?_
      refine ye [2] ?_
      exact hl3 _ (zi h).symm
     ·refine yx hn 3 ?_
      refine yd hg1_2 7 ?_
      refine yd hg1_9 8 ?_
      refine yd hg1_17 5 ?_
      refine ye [2] ?_
      exact hl3 _ (zi h).symm
theorem xb (c:Int) (r:Bool) (h:Sh.kE c=some r):eD Tryz.prog 82 [.v (.int .u8 c)] (.v (.bool r)):=by
  unfold Sh.kE at h
  refine yO 9 func82 fun g0 hn hio => ?_
  refine cF hn 1 [0] ?_
  refine aM ?_
  refine ce h (fun (s2:Bool)=>[(2,vb s2)]) ?_ ?_
  ·rintro s2 h
   refine bb (bO ?_)
   obtain rfl:=zi h
   exact bP hio rfl (.tmp _ _ .nil) rfl rfl
  ·intro u3 h hl4 hr5
   obtain ⟨v1, hv1, h⟩:=zn h
   refine bJ h (fun hg1_2 h => ?_) (fun hg1_2 h => ?_)
   ·refine yx hn 1 ?_
    refine ys 1 ⟨lk call83 (iz _ _ hv1)⟩ ?_
    refine yd hg1_2 4 ?_
    refine ye [2] ?_
    exact hl4 _ (zi h).symm
   ·refine yx hn 1 ?_
    refine ys 1 ⟨lk call83 (iz _ _ hv1)⟩ ?_
    refine yd hg1_2 4 ?_
    refine ye [2] ?_
    exact hl4 _ (zi h).symm
theorem oO (s:ByteArray) (r:Bool) (h:Sh.iU s=some r):eD Tryz.prog 81 [.v (.string s), .v (.func (.func 82) #[] #[])] (.v (.bool r)):=by
  unfold Sh.iU at h
  refine yO 18 func81 fun g0 hn hio => ?_
  refine cF hn 1 [0,1] ?_
  refine aM ?_
  refine cF hn 3 [0,1,7,8] ?_
  refine dx h (fun (s9:Int)=>[(0,vs s),(1,.v (.func (.func 82) #[] #[])),(7,vi (s.size:Int)),(8,vi s9)]) (fun (():Unit)=>[]) ?_ ?_
  ·rintro ⟨⟩ h
   refine bb ?_
   refine cF hn 1 [4] ?_
   refine bO ?_
   obtain rfl:=zi h
   exact bP hio rfl (.tmp _ _ .nil) rfl rfl
  ·rintro u12 hl13 hr14 s9 rr17 h ho15
   refine cF hn 1 [0,1,7,8,9] ?_
   refine aM ?_
   refine bL _ rfl (fun hb18 => ?_) (fun hb18 => ?_)
   ·have h:=bT hb18 h
    refine bU ?_
    refine bb (aM ?_)
    refine cA ?_
    refine cF hn 2 [0,1,7,8,5] ?_
    refine aM ?_
    obtain ⟨v2, hv2, h⟩:=zn h
    obtain ⟨v3, hv3, h⟩:=zn h
    refine yx hn 3 ?_
    refine ys 0 ⟨lh hv2⟩ ?_
    refine ys 1 ⟨lk call82 (xb _ _ hv3)⟩ ?_
    refine dv [0,1,7,8,16] ?_
    refine bL _ rfl (fun hb19 => ?_) (fun hb19 => ?_)
    ·have h:=bT hb19 h
     refine cF hn 1 [4] ?_
     refine bO ?_
     refine cC ?_
     refine bw ?_
     refine bw ?_
     refine cC ?_
     refine bw ?_
     have h:=hr14 _ (ho15 _ (zi h).symm).symm
     obtain rfl:=zi h
     exact bP hio rfl (.tmp _ _ .nil) rfl rfl
    ·have h:=bQ hb19 h
     refine bU ?_
     refine cG ?_
     refine bb ?_
     obtain ⟨v5, hv5, h⟩:=zn h
     refine yx hn 0 ?_
     refine ys 0 ⟨lb hv5⟩ ?_
     refine yw [8] 1 ?_
     refine ye [0,1,7,8] ?_
     exact dM _ (zi h).symm rfl
   ·have h:=bQ hb18 h
    refine dK ?_
    refine cd ?_
    refine cd ?_
    refine dL ?_
    refine bG [] (by kernel_rfl) (es':=[]) rfl ?_
    exact hl13 _ (ho15 _ (zi h).symm).symm
theorem zY (s:ByteArray) (r:Bool) (h:Sh.pE s=some r):eD Tryz.prog 70 [.v (.string s)] (.v (.bool r)):=by
  unfold Sh.pE at h
  refine yO 27 func70 fun g0 hn hio => ?_
  refine cF hn 1 [0] ?_
  refine aM ?_
  refine ce h (fun (s5:Bool)=>[(2,vb s5)]) ?_ ?_
  ·rintro s5 h
   refine bb (bO ?_)
   obtain rfl:=zi h
   exact bP hio rfl (.tmp _ _ .nil) rfl rfl
  ·intro u6 h hl7 hr8
   refine bJ h (fun hg1_2 h => ?_) (fun hg1_2 h => ?_)
   ·refine bJ h (fun hg1_7 h => ?_) (fun hg1_7 h => ?_)
    ·obtain ⟨v1, hv1, h⟩:=zn h
     refine bJ h (fun hg1_12 h => ?_) (fun hg1_12 h => ?_)
     ·obtain ⟨v2, hv2, h⟩:=zn h
      obtain ⟨v3, hv3, h⟩:=zn h
      refine bJ h (fun hg1_20 h => ?_) (fun hg1_20 h => ?_)
      ·obtain ⟨v4, hv4, h⟩:=zn h
       refine yx hn 3 ?_
       refine yd hg1_2 5 ?_
       refine yd hg1_7 1 ?_
       refine ys 3 ⟨lh hv1⟩ ?_
       refine yd hg1_12 3 ?_
       refine ys 0 ⟨lb hv2⟩ ?_
       refine ys 3 ⟨lh hv3⟩ ?_
       refine yd hg1_20 1 ?_
       refine ys 2 ⟨lk call81 (oO _ _ hv4)⟩ ?_
       refine ye [2] ?_
       exact hl7 _ (zi h).symm
      ·refine yx hn 3 ?_
       refine yd hg1_2 5 ?_
       refine yd hg1_7 1 ?_
       refine ys 3 ⟨lh hv1⟩ ?_
       refine yd hg1_12 3 ?_
       refine ys 0 ⟨lb hv2⟩ ?_
       refine ys 3 ⟨lh hv3⟩ ?_
       refine yd hg1_20 4 ?_
       refine ye [2] ?_
       exact hl7 _ (zi h).symm
     ·refine yx hn 3 ?_
      refine yd hg1_2 5 ?_
      refine yd hg1_7 1 ?_
      refine ys 3 ⟨lh hv1⟩ ?_
      refine yd hg1_12 12 ?_
      refine ye [2] ?_
      exact hl7 _ (zi h).symm
    ·refine yx hn 3 ?_
     refine yd hg1_2 5 ?_
     refine yd hg1_7 17 ?_
     refine ye [2] ?_
     exact hl7 _ (zi h).symm
   ·refine yx hn 3 ?_
    refine yd hg1_2 22 ?_
    refine ye [2] ?_
    exact hl7 _ (zi h).symm
theorem oa (mx:Int×Nat×Value) (s:ByteArray) (r:Bool) (h:Sh.ii s=some r):lX Tryz.prog (GL mx) 69 [.v (.string s), .v (.func (.func 70) #[] #[])] (.v (.bool r)):=by
  unfold Sh.ii at h
  refine yG 13 func69 fun g0 hn hio => ?_
  refine lp hn 1 ?_
  refine yS (.box 4 [vb false]) 0 ⟨oA (dh _ _ Oh)⟩ ?_
  refine dv [0,13,3,4] ?_
  refine aM ?_
  refine aM ?_
  obtain ⟨v1, hv1, h⟩:=zn h
  refine yx hn 1 ?_
  refine yk [] [6] ?_
  refine yt (7,.cloB 119 [.box 9 [vs v1.1],.box 9 [vs v1.2.1],.box 3 [vi v1.2.2]]) 0 ⟨ld _ _ 80 _ _ rfl call80 rfl rfl (kR s (⟨#[46]⟩:ByteArray) _ hv1) rfl⟩ ?_
  refine dv [13,3,4,7] ?_
  refine cA ?_
  refine nH [3,0,1,2] (by kernel_rfl) (es':=[(7,.cloB 119 [.box 9 [vs v1.1],.box 9 [vs v1.2.1],.box 3 [vi v1.2.2]]),(13,.glob (GL mx)),(3,.box 65 [.v (.func (.func 70) #[] #[])]),(4,.box 4 [vb false])]) rfl ?_
  refine lY h 119 7 8 14 _ [13, 3, 4] call119 (fun (():Unit)=>[(13, .glob (GL mx)), (3, .box 65 [.v (.func (.func 70) #[] #[])]), (4, .box 4 [.v (.bool false)])]) (fun (():Unit)=>[(13, .glob (GL mx)), (3, .box 65 [.v (.func (.func 70) #[] #[])]), (4, .box 4 [.v (.bool false)])]) (fun l J Y hY t t' h=>jQ mx l J Y hY v1.1 v1.2.1 v1.2.2 t t' h) hn rfl (fun _=>rfl) (fun _=>rfl) (fun _=>rfl) rfl rfl (fun _=>⟨rfl, rfl⟩) rfl (lQ 13 rfl) ?_ ?_ ?_
  ·rintro kk g0 hn hio x ⟨⟩ u h
   refine wD (es':=[(8,vs x),(13,.glob (GL mx)),(3,.box 65 [.v (.func (.func 70) #[] #[])]),(4,.box 4 [vb false]),(13,.v (kk.tm.getD 13 undef)),(3,.v (kk.tm.getD 3 undef)),(4,.v (kk.tm.getD 4 undef)),(14,.inv kk.ready)]) rfl ?_
   refine yy hn 1 [13,3,4,14,5,13,3,4] ?_
   refine bG [0,1,2,4,5,6,7,3] (by kernel_rfl) (es':=[(13,.glob (GL mx)),(3,.box 65 [.v (.func (.func 70) #[] #[])]),(4,.box 4 [vb false]),(5,vs x),(13,.v (kk.tm.getD 13 undef)),(3,.v (kk.tm.getD 3 undef)),(4,.v (kk.tm.getD 4 undef)),(14,.inv kk.ready)]) rfl ?_
   refine nK (es:=[(13,.glob (GL mx)),(3,.box 65 [.v (.func (.func 70) #[] #[])]),(4,.box 4 [vb false]),(5,vs x),(13,.v (kk.tm.getD 13 undef)),(3,.v (kk.tm.getD 3 undef)),(4,.v (kk.tm.getD 4 undef))]) 14 rfl ?_
   refine cA ?_
   refine aM ?_
   obtain ⟨v2, hv2, h⟩:=zn h
   refine yx hn 2 ?_
   refine ys 1 ⟨lk call70 (zY _ _ hv2)⟩ ?_
   refine dv [13,3,4,14,12,13,3,4] ?_
   refine bL _ rfl (fun hb5 => ?_) (fun hb5 => ?_)
   ·have h:=bT hb5 h
    refine cF hn 1 [13,3,4,14,13,3,4] ?_
    refine bO ?_
    refine cC ?_
    refine bG [0,1,2,4,5,6,3] (by kernel_rfl) (es':=[(_,_),(_,_),(_,_),(_,_),(_,_),(_,_),(_,_)]) rfl ?_
    obtain rfl:=zi h
    exact uV 14 [13, 3, 4] _ rfl rfl (by kernel_rfl)
   ·have h:=bQ hb5 h
    refine bU ?_
    refine cG ?_
    refine bG [0,1,2,5,6,7,3] (by kernel_rfl) (es':=[(_,_),(_,_),(_,_),(_,_),(_,_),(_,_),(_,_)]) rfl ?_
    obtain rfl:=zi h
    exact nZ 14 [13, 3, 4] _ rfl rfl (by kernel_rfl)
  ·rintro D ⟨⟩ h
   refine cG ?_
   refine bb ?_
   refine cF hn 1 [13,4] ?_
   refine bO ?_
   refine bG [1] (by kernel_rfl) (es':=[(_,_)]) rfl ?_
   obtain rfl:=zi h
   exact bP hio rfl (.cell1 _ _ _ _ underlying4 rfl .nil) rfl rfl
  ·rintro D ⟨⟩ h
   refine bG [2] (by kernel_rfl) (es':=[(_,_)]) rfl ?_
   refine cC ?_
   refine bw ?_
   obtain rfl:=zi h
   exact bP hio rfl (.cell1 _ _ _ _ underlying4 rfl .nil) rfl rfl
theorem eF (mx:Int×Nat×Value) (s:ByteArray) (r:Bool) (h:Sh.eK s=some r):lX Tryz.prog (GL mx) 55 [.v (.string s)] (.v (.bool r)):=by
  unfold Sh.eK at h
  refine yG 10 func55 fun g0 hn hio => ?_
  refine cF hn 1 [0,10] ?_
  refine aM ?_
  refine ce h (fun (s2:Bool)=>[(10,.glob (GL mx)),(2,vb s2)]) ?_ ?_
  ·rintro s2 h
   refine bb (bO ?_)
   refine bG [1] (by kernel_rfl) (es':=[(_,_)]) rfl ?_
   obtain rfl:=zi h
   exact bP hio rfl (.tmp _ _ .nil) rfl rfl
  ·intro u3 h hl4 hr5
   refine bJ h (fun hg1_3 h => ?_) (fun hg1_3 h => ?_)
   ·obtain ⟨v1, hv1, h⟩:=zn h
    refine yx hn 4 ?_
    refine yd hg1_3 1 ?_
    refine ys 2 ⟨lg call69 (oa _ _ _ hv1) 10⟩ ?_
    refine ye [10,2] ?_
    exact hl4 _ (zi h).symm
   ·refine yx hn 4 ?_
    refine yd hg1_3 4 ?_
    refine ye [10,2] ?_
    exact hl4 _ (zi h).symm
theorem iu (s:ByteArray) (r:ByteArray) (h:Sh.gY s=some r):eD Tryz.prog 71 [.v (.string s)] (.v (.string r)):=by
  unfold Sh.gY at h
  refine yO 29 func71 fun g0 hn hio => ?_
  refine cF hn 1 [0] ?_
  refine aM ?_
  obtain ⟨v1, hv1, h⟩:=zn h
  refine yx hn 1 ?_
  refine ys 0 ⟨lU hv1⟩ ?_
  refine ya 0 ?_
  refine dv [3] ?_
  refine aM ?_
  refine lp hn 1 ?_
  refine yS (vi (v1.length:Int)) 1 ⟨sV _ _ _ underlying28 rfl (List.length_map _)⟩ ?_
  refine dv [3,8,9,10] ?_
  refine dx h (fun ((s40,s41):(List Int)×Int)=>[(3,.mkr 5 (map (int .u8) s40)),(8,.same (.slot 3)),(9,vi (v1.length:Int)),(10,vi s41)]) (fun (s57:(List Int))=>[(3,.mkr 5 (map (int .u8) s57))]) ?_ ?_
  ·rintro s57 h
   refine bb (aM ?_)
   obtain ⟨v79, hv79, h⟩:=zn h
   refine yx hn 0 ?_
   refine ym 0 ?_
   refine ys 1 ⟨lM hv79⟩ ?_
   refine dv [2] ?_
   refine bO ?_
   obtain rfl:=zi h
   exact bP hio rfl (.tmp _ _ .nil) rfl rfl
  ·rintro u58 hl59 hr60 ⟨s40, s41⟩ rr63 h ho61
   refine cF hn 1 [3,8,9,10,11] ?_
   refine aM ?_
   refine bL _ rfl (fun hb64 => ?_) (fun hb64 => ?_)
   ·have h:=bT hb64 h
    refine bU ?_
    refine bb (aM ?_)
    refine ce h (fun (s70:(List Int))=>[(3,.mkr 5 (map (int .u8) s70)),(8,.same (.slot 3)),(9,vi (v1.length:Int)),(10,vi s41)]) ?_ ?_
    ·rintro s70 h
     refine bb ?_
     obtain ⟨v22, hv22, h⟩:=zn h
     refine yx hn 0 ?_
     refine ys 0 ⟨lb hv22⟩ ?_
     refine yw [10] 1 ?_
     refine ye [3,8,9,10] ?_
     exact dM _ (zi h).symm rfl
    ·intro u71 h hl72 hr73
     refine cA ?_
     refine aM ?_
     obtain ⟨v3, hv3, h⟩:=zn h
     obtain ⟨v4, hv4, h⟩:=zn h
     refine yx hn 1 ?_
     refine yS (.eref (.slot 3) (v3 * 1)) 0 ⟨DZ _ _ _ _ _ _ _ underlying28 qp rfl rfl rfl (dR hv3).1 (IQ (dR hv3).2) rfl⟩ ?_
     refine yS (.v (.int .u8 v4)) 2 ⟨EX _ _ _ _ _ _ underlying5 rfl rfl rfl (Gp hv4)⟩ ?_
     refine dv [3,8,9,10,4,5] ?_
     refine aM ?_
     refine ce h (fun (s74:Bool)=>[(3,.mkr 5 (map (int .u8) s40)),(8,.same (.slot 3)),(9,vi (v1.length:Int)),(10,vi s41),(4,vi s41),(5,.v (.int .u8 v4)),(20,vb s74)]) ?_ ?_
     ·rintro s74 h
      refine bb ?_
      refine bL _ rfl (fun hb78 => ?_) (fun hb78 => ?_)
      ·have h:=bT hb78 h
       obtain ⟨v10, hv10, h⟩:=zn h
       obtain ⟨v11, hv11, h⟩:=zn h
       obtain ⟨v12, hv12, h⟩:=zn h
       refine yx hn 3 ?_
       refine ys 0 ⟨lb hv10⟩ ?_
       refine yS (.eref (.slot 3) (v11 * 1)) 0 ⟨DZ _ _ _ _ _ _ _ underlying28 qp rfl rfl rfl (dR hv11).1 (IQ (dR hv11).2) rfl⟩ ?_
       refine yk [3] [25,24] ?_
       refine yt (3,.mkr 5 (map (int .u8) v12)) 0 ⟨EK _ _ _ _ _ _ _ qp rfl rfl rfl (Nx (dR hv11).2) (LZ (f:=int .u8) (Option.some.inj hv12))⟩ ?_
       refine ye [3,8,9,10] ?_
       refine cG ?_
       exact hl72 _ (zi h).symm
      ·have h:=bQ hb78 h
       refine bU ?_
       refine cG ?_
       refine bG [0,1,2,3] (by kernel_rfl) (es':=[(_,_),(_,_),(_,_),(_,_)]) rfl ?_
       exact hl72 _ (zi h).symm
     ·intro u75 h hl76 hr77
      refine bJ h (fun hg5_2 h => ?_) (fun hg5_2 h => ?_)
      ·refine yx hn 3 ?_
       refine yd hg5_2 3 ?_
       refine ye [3,8,9,10,4,5,20] ?_
       exact hl76 _ (zi h).symm
      ·refine yx hn 3 ?_
       refine yd hg5_2 3 ?_
       refine ye [3,8,9,10,4,5,20] ?_
       exact hl76 _ (zi h).symm
   ·have h:=bQ hb64 h
    refine dK ?_
    refine cd ?_
    refine cd ?_
    refine dL ?_
    refine bG [0] (by kernel_rfl) (es':=[(_,_)]) rfl ?_
    exact hl59 _ (ho61 _ (zi h).symm).symm
theorem pS (a:ByteArray) (b:ByteArray) (r:Bool) (h:Sh.mz a b=some r):eD Tryz.prog 56 [.v (.string a), .v (.string b)] (.v (.bool r)):=by
  unfold Sh.mz at h
  refine yO 10 func56 fun g0 hn hio => ?_
  refine cF hn 1 [0,1] ?_
  refine aM ?_
  obtain ⟨v1, hv1, h⟩:=zn h
  obtain ⟨v2, hv2, h⟩:=zn h
  refine yx hn 1 ?_
  refine ys 1 ⟨lk call71 (iu _ _ hv1)⟩ ?_
  refine ys 2 ⟨lk call71 (iu _ _ hv2)⟩ ?_
  refine dv [4] ?_
  refine bO ?_
  obtain rfl:=zi h
  exact bP hio rfl (.tmp _ _ .nil) rfl rfl
theorem sc (s:ByteArray) (least:Int) (r:Bool) (h:Sh.pR s least=some r):eD Tryz.prog 58 [.v (.string s), .v (.int .u8 least)] (.v (.bool r)):=by
  unfold Sh.pR at h
  refine yO 23 func58 fun g0 hn hio => ?_
  refine cF hn 1 [0,1] ?_
  refine aM ?_
  refine cF hn 3 [0,1,7,8] ?_
  refine dx h (fun (s17:Int)=>[(0,vs s),(1,.v (.int .u8 least)),(7,vi (s.size:Int)),(8,vi s17)]) (fun (():Unit)=>[]) ?_ ?_
  ·rintro ⟨⟩ h
   refine bb ?_
   refine cF hn 1 [4] ?_
   refine bO ?_
   obtain rfl:=zi h
   exact bP hio rfl (.tmp _ _ .nil) rfl rfl
  ·rintro u24 hl25 hr26 s17 rr29 h ho27
   refine cF hn 1 [0,1,7,8,9] ?_
   refine aM ?_
   refine bL _ rfl (fun hb30 => ?_) (fun hb30 => ?_)
   ·have h:=bT hb30 h
    refine bU ?_
    refine bb (aM ?_)
    refine cA ?_
    refine cF hn 2 [0,1,7,8,5] ?_
    refine aM ?_
    refine ce h (fun (s31:Bool)=>[(0,vs s),(1,.v (.int .u8 least)),(7,vi (s.size:Int)),(8,vi s17),(21,vb s31)]) ?_ ?_
    ·rintro s31 h
     refine bb ?_
     refine bL _ rfl (fun hb35 => ?_) (fun hb35 => ?_)
     ·have h:=bT hb35 h
      refine cF hn 1 [4] ?_
      refine bO ?_
      refine cC ?_
      refine bw ?_
      refine bw ?_
      refine cC ?_
      refine bw ?_
      have h:=hr26 _ (ho27 _ (zi h).symm).symm
      obtain rfl:=zi h
      exact bP hio rfl (.tmp _ _ .nil) rfl rfl
     ·have h:=bQ hb35 h
      refine bU ?_
      refine cG ?_
      refine bb ?_
      obtain ⟨v9, hv9, h⟩:=zn h
      refine yx hn 0 ?_
      refine ys 0 ⟨lb hv9⟩ ?_
      refine yw [8] 1 ?_
      refine ye [0,1,7,8] ?_
      exact dM _ (zi h).symm rfl
    ·intro u32 h hl33 hr34
     obtain ⟨v2, hv2, h⟩:=zn h
     refine bJ h (fun hg4_5 h => ?_) (fun hg4_5 h => ?_)
     ·refine yx hn 2 ?_
      refine ys 3 ⟨lh hv2⟩ ?_
      refine yd hg4_5 5 ?_
      refine ye [0,1,7,8,21] ?_
      exact hl33 _ (zi h).symm
     ·obtain ⟨v3, hv3, h⟩:=zn h
      refine yx hn 2 ?_
      refine ys 3 ⟨lh hv2⟩ ?_
      refine yd hg4_5 2 ?_
      refine ys 2 ⟨lh hv3⟩ ?_
      refine ye [0,1,7,8,21] ?_
      exact hl33 _ (zi h).symm
   ·have h:=bQ hb30 h
    refine dK ?_
    refine cd ?_
    refine cd ?_
    refine dL ?_
    refine bG [] (by kernel_rfl) (es':=[]) rfl ?_
    exact hl25 _ (ho27 _ (zi h).symm).symm
theorem ru (s:ByteArray) (r:Bool) (h:Sh.sZ s=some r):eD Tryz.prog 57 [.v (.string s)] (.v (.bool r)):=by
  unfold Sh.sZ at h
  refine yO 15 func57 fun g0 hn hio => ?_
  refine cF hn 1 [0] ?_
  refine aM ?_
  refine ce h (fun (s2:Bool)=>[(2,vb s2)]) ?_ ?_
  ·rintro s2 h
   refine bb (bO ?_)
   obtain rfl:=zi h
   exact bP hio rfl (.tmp _ _ .nil) rfl rfl
  ·intro u3 h hl4 hr5
   refine bJ h (fun hg1_3 h => ?_) (fun hg1_3 h => ?_)
   ·refine bJ h (fun hg1_8 h => ?_) (fun hg1_8 h => ?_)
    ·obtain ⟨v1, hv1, h⟩:=zn h
     refine yx hn 4 ?_
     refine yd hg1_3 5 ?_
     refine yd hg1_8 1 ?_
     refine ys 2 ⟨lk call58 (sc _ _ _ hv1)⟩ ?_
     refine ye [2] ?_
     exact hl4 _ (zi h).symm
    ·refine yx hn 4 ?_
     refine yd hg1_3 5 ?_
     refine yd hg1_8 4 ?_
     refine ye [2] ?_
     exact hl4 _ (zi h).symm
   ·refine yx hn 4 ?_
    refine yd hg1_3 9 ?_
    refine ye [2] ?_
    exact hl4 _ (zi h).symm
theorem sx (mx:Int×Nat×Value) (c:co) (r:Int) (h:Sh.nT c=some r):lX Tryz.prog (GL mx) 35 [.agg [.v (.string ((c.Domains.getD 0 (⟨#[]⟩:ByteArray)))), .v (.string ((c.Domains.getD 1 (⟨#[]⟩:ByteArray)))), .v (.int .i64 c.Expiry), .v (.string c.User), .v (.string c.Secret), .v (.int .i64 c.Log), .v (.bool c.Held)]] (.v (.int .i64 r)):=by
  unfold Sh.nT at h
  refine yG 65 func35 fun g0 hn hio => ?_
  refine cF hn 2 [65,1] ?_
  refine aM ?_
  refine ce h (fun (s4:Bool)=>[(65,.glob (GL mx)),(1,.box 24 (co.c c [])),(3,vb s4)]) ?_ ?_
  ·rintro s4 h
   refine bb (aM ?_)
   refine ce h (fun (s8:Bool)=>[(65,.glob (GL mx)),(1,.box 24 (co.c c [])),(3,vb s4),(4,vb s8)]) ?_ ?_
   ·rintro s8 h
    refine bb (aM ?_)
    refine ce h (fun (s14:Bool)=>[(65,.glob (GL mx)),(1,.box 24 (co.c c [])),(3,vb s4),(4,vb s8),(5,vb s14)]) ?_ ?_
    ·rintro s14 h
     refine bb (aM ?_)
     refine ce h (fun (s18:Bool)=>[(65,.glob (GL mx)),(3,vb s4),(4,vb s8),(5,vb s14),(6,vb s18)]) ?_ ?_
     ·rintro s18 h
      refine bb (aM ?_)
      refine aM ?_
      refine ce h (fun (s22:Bool)=>[(65,.glob (GL mx)),(64,vb s22)]) ?_ ?_
      ·rintro s22 h
       refine bb ?_
       refine bL _ rfl (fun hb26 => ?_) (fun hb26 => ?_)
       ·have h:=bT hb26 h
        refine cF hn 1 [65,2] ?_
        refine bO ?_
        refine bG [1] (by kernel_rfl) (es':=[(_,_)]) rfl ?_
        refine bw ?_
        obtain rfl:=zi h
        exact bP hio rfl (.tmp _ _ .nil) rfl rfl
       ·have h:=bQ hb26 h
        refine bU ?_
        refine bb ?_
        refine cF hn 1 [65,2] ?_
        refine bO ?_
        refine bG [1] (by kernel_rfl) (es':=[(_,_)]) rfl ?_
        obtain rfl:=zi h
        exact bP hio rfl (.tmp _ _ .nil) rfl rfl
      ·intro u23 h hl24 hr25
       refine bJ h (fun hg5_2 h => ?_) (fun hg5_2 h => ?_)
       ·refine yx hn 3 ?_
        refine yd hg5_2 11 ?_
        refine ye [65,64] ?_
        exact hl24 _ (zi h).symm
       ·refine bJ h (fun hg5_6 h => ?_) (fun hg5_6 h => ?_)
        ·refine yx hn 3 ?_
         refine yd hg5_2 4 ?_
         refine yd hg5_6 7 ?_
         refine ye [65,64] ?_
         exact hl24 _ (zi h).symm
        ·refine bJ h (fun hg5_10 h => ?_) (fun hg5_10 h => ?_)
         ·refine yx hn 3 ?_
          refine yd hg5_2 4 ?_
          refine yd hg5_6 4 ?_
          refine yd hg5_10 3 ?_
          refine ye [65,64] ?_
          exact hl24 _ (zi h).symm
         ·refine yx hn 3 ?_
          refine yd hg5_2 4 ?_
          refine yd hg5_6 4 ?_
          refine yd hg5_10 3 ?_
          refine ye [65,64] ?_
          exact hl24 _ (zi h).symm
     ·intro u19 h hl20 hr21
      refine bJ h (fun hg4_3 h => ?_) (fun hg4_3 h => ?_)
      ·refine yx hn 4 ?_
       refine yd hg4_3 5 ?_
       refine ye [65,3,4,5,6] ?_
       exact hl20 _ (zi h).symm
      ·refine yx hn 4 ?_
       refine yd hg4_3 5 ?_
       refine ye [65,3,4,5,6] ?_
       exact hl20 _ (zi h).symm
    ·intro u15 h hl16 hr17
     obtain ⟨v12, hv12, h⟩:=zn h
     refine bJ h (fun hg3_3 h => ?_) (fun hg3_3 h => ?_)
     ·obtain ⟨v13, hv13, h⟩:=zn h
      refine yx hn 2 ?_
      refine ys 1 ⟨lk call57 (ru _ _ hv12)⟩ ?_
      refine yd hg3_3 2 ?_
      refine ys 2 ⟨lk call57 (ru _ _ hv13)⟩ ?_
      refine ye [65,1,3,4,5] ?_
      exact hl16 _ (zi h).symm
     ·refine yx hn 2 ?_
      refine ys 1 ⟨lk call57 (ru _ _ hv12)⟩ ?_
      refine yd hg3_3 5 ?_
      refine ye [65,1,3,4,5] ?_
      exact hl16 _ (zi h).symm
   ·intro u9 h hl10 hr11
    refine bJ h (fun hg2_3 h => ?_) (fun hg2_3 h => ?_)
    ·refine yx hn 4 ?_
     refine yd hg2_3 5 ?_
     refine ye [65,1,3,4] ?_
     exact hl10 _ (zi h).symm
    ·refine yx hn 4 ?_
     refine yd hg2_3 5 ?_
     refine ye [65,1,3,4] ?_
     exact hl10 _ (zi h).symm
  ·intro u5 h hl6 hr7
   obtain ⟨v1, hv1, h⟩:=zn h
   refine bJ h (fun hg1_4 h => ?_) (fun hg1_4 h => ?_)
   ·obtain ⟨v2, hv2, h⟩:=zn h
    refine bJ h (fun hg1_10 h => ?_) (fun hg1_10 h => ?_)
    ·obtain ⟨v3, hv3, h⟩:=zn h
     refine yx hn 1 ?_
     refine yS (.ptr 1 0) 1 ⟨eE _ _ _ _ 2 1 0 0 1 underlying22 Am rfl rfl (by decide) (by decide)⟩ ?_
     refine ys 1 ⟨lg call55 (eF _ _ _ hv1) 65⟩ ?_
     refine yd hg1_4 1 ?_
     refine yS (.ptr 1 1) 1 ⟨eE _ _ _ _ 2 1 0 1 1 underlying22 Am rfl rfl (by decide) (by decide)⟩ ?_
     refine ys 2 ⟨lg call55 (eF _ _ _ hv2) 65⟩ ?_
     refine yd hg1_10 1 ?_
     refine yS (.ptr 1 0) 2 ⟨eE _ _ _ _ 2 1 0 0 1 underlying22 Am rfl rfl (by decide) (by decide)⟩ ?_
     refine yS (.ptr 1 1) 1 ⟨eE _ _ _ _ 2 1 0 1 1 underlying22 Am rfl rfl (by decide) (by decide)⟩ ?_
     refine ys 3 ⟨lk call56 (pS _ _ _ hv3)⟩ ?_
     refine ye [65,1,3] ?_
     exact hl6 _ (zi h).symm
    ·refine yx hn 1 ?_
     refine yS (.ptr 1 0) 1 ⟨eE _ _ _ _ 2 1 0 0 1 underlying22 Am rfl rfl (by decide) (by decide)⟩ ?_
     refine ys 1 ⟨lg call55 (eF _ _ _ hv1) 65⟩ ?_
     refine yd hg1_4 1 ?_
     refine yS (.ptr 1 1) 1 ⟨eE _ _ _ _ 2 1 0 1 1 underlying22 Am rfl rfl (by decide) (by decide)⟩ ?_
     refine ys 2 ⟨lg call55 (eF _ _ _ hv2) 65⟩ ?_
     refine yd hg1_10 10 ?_
     refine ye [65,1,3] ?_
     exact hl6 _ (zi h).symm
   ·refine yx hn 1 ?_
    refine yS (.ptr 1 0) 1 ⟨eE _ _ _ _ 2 1 0 0 1 underlying22 Am rfl rfl (by decide) (by decide)⟩ ?_
    refine ys 1 ⟨lg call55 (eF _ _ _ hv1) 65⟩ ?_
    refine yd hg1_4 16 ?_
    refine ye [65,1,3] ?_
    exact hl6 _ (zi h).symm
end Go.Proofs.YtjnnkhmhjcjhdaaGreatDoor
