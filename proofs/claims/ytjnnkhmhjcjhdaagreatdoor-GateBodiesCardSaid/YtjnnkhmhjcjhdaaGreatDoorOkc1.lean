/-
  The model's runs are what is told in Lean.
-/
import Derived.Test.YtjnnkhmhjcjhdaaGreatDoorProg
import Derived.KernelRfl
import Derived.Test.YtjnnkhmhjcjhdaaGreatDoorShelf
import Derived.Test.YtjnnkhmhjcjhdaaGreatDoorIdx
import Derived.Test.YtjnnkhmhjcjhdaaGreatDoorB3
import Derived.Test.YtjnnkhmhjcjhdaaGreatDoorC1
import Derived.Test.YtjnnkhmhjcjhdaaGreatDoorBC
import Derived.Test.YtjnnkhmhjcjhdaaGreatDoorSh
set_option linter.unusedVariables false
set_option linter.unusedSimpArgs false
set_option maxHeartbeats 1000000
namespace Go.Proofs.YtjnnkhmhjcjhdaaGreatDoor
open Go.Abs Go.Abs.Sh Tryz
open List (map flatten)
open Value (int)
def GL (mx:Int×Nat×Value):List (Nat×List Value):=[(0, [.int .i64 mx.1]), (1, (List.map (Value.int .u8) il)), (2, (List.map (Value.int .u8) kj)), (3, [.iface mx.2.1 mx.2.2]), (5, (List.map (Value.int .u32) ew)), (6, (List.map (Value.int .i64) jb)), (7, (List.map (Value.int .u64) gT))]
theorem wg (mx:Int×Nat×Value):(0, ([.int .i64 mx.1]:List Value))∈GL mx := .head _
theorem Ao (mx:Int×Nat×Value):(1, ((List.map (Value.int .u8) il):List Value))∈GL mx := .tail _ (.head _)
theorem Ef (mx:Int×Nat×Value):(2, ((List.map (Value.int .u8) kj):List Value))∈GL mx := .tail _ (.tail _ (.head _))
theorem Do (mx:Int×Nat×Value):(3, ([.iface mx.2.1 mx.2.2]:List Value))∈GL mx := .tail _ (.tail _ (.tail _ (.head _)))
theorem Dj (mx:Int×Nat×Value):(5, ((List.map (Value.int .u32) ew):List Value))∈GL mx := .tail _ (.tail _ (.tail _ (.tail _ (.head _))))
theorem Du (mx:Int×Nat×Value):(6, ((List.map (Value.int .i64) jb):List Value))∈GL mx := .tail _ (.tail _ (.tail _ (.tail _ (.tail _ (.head _)))))
theorem DU (mx:Int×Nat×Value):(7, ((List.map (Value.int .u64) gT):List Value))∈GL mx := .tail _ (.tail _ (.tail _ (.tail _ (.tail _ (.tail _ (.head _))))))
instance iUD28:UD Tryz.prog 28 (.slice 5):=⟨Tryz.underlying28⟩
theorem kI:(Tryz.prog.info? 5).map (·.size)=some 1:=by kernel_rfl
instance iSZ5:SZ Tryz.prog 5 1:=⟨by kernel_rfl⟩
instance iAG5:AS Tryz.prog 5:=⟨by kernel_rfl⟩
theorem qV:(Tryz.prog.info? 5).bind (·.zero)=some (.int .u8 0):=by kernel_rfl
theorem fV:ga Tryz.prog 28 5 1 1:=⟨⟨Tryz.t5, .int .u8 0, Tryz.underlying28, by kernel_rfl, by kernel_rfl, by kernel_rfl, by kernel_rfl, by decide, by kernel_rfl⟩⟩
theorem GS:(Tryz.prog.info? 24).bind (·.zero)=some (.agg #[.string ByteArray.empty, .string ByteArray.empty, .int .i64 0, .string ByteArray.empty, .string ByteArray.empty, .int .i64 0, .bool false]):=by kernel_rfl
theorem up:(Tryz.prog.info? 9).map (·.size)=some 1:=by kernel_rfl
theorem Iq:(Tryz.prog.info? 22).bind (·.zero)=some (.agg #[.string ByteArray.empty, .string ByteArray.empty]):=by kernel_rfl
theorem HS:∀ fs, Tryz.prog.underlying 24=some (.struct fs)→fs.toList.map (fun f=>(Tryz.prog.info? f.type).map (·.size))=([2, 1, 1, 1, 1, 1]:List Nat).map some:=by
  intro fs h
  rw [Tryz.underlying24] at h
  cases h
  kernel_rfl
theorem GN:(Tryz.prog.info? 24).map (·.size)=some 7:=by kernel_rfl
instance iAG24:AA Tryz.prog 24 7:=⟨by kernel_rfl⟩
theorem xh:(Tryz.prog.info? 30).bind (·.zero)=some (.agg #[.int .i64 0, .string ByteArray.empty, .bool false, .string ByteArray.empty, .string ByteArray.empty, .slice none 0 0, .bool false, .slice none 0 0, .string ByteArray.empty, .bool false]):=by kernel_rfl
theorem Fw:∀ fs, Tryz.prog.underlying 30=some (.struct fs)→fs.toList.map (fun f=>(Tryz.prog.info? f.type).map (·.size))=([1, 1, 3, 1, 1, 1, 1, 1]:List Nat).map some:=by
  intro fs h
  rw [Tryz.underlying30] at h
  cases h
  kernel_rfl
theorem tN:(Tryz.prog.info? 30).map (·.size)=some 10:=by kernel_rfl
instance iAG30:AA Tryz.prog 30 10:=⟨by kernel_rfl⟩
theorem HX:(Tryz.prog.info? 22).map (·.size)=some 2:=by kernel_rfl
theorem Hb:(Tryz.prog.info? 4).bind (·.zero)=some (.bool false):=by kernel_rfl
instance iAG9:AS Tryz.prog 9:=⟨by kernel_rfl⟩
instance iUD9:UD Tryz.prog 9 .string:=⟨Tryz.underlying9⟩
instance iUD5:UD Tryz.prog 5 (.int .u8):=⟨Tryz.underlying5⟩
instance iUD21:UD Tryz.prog 21 (.int .i32):=⟨Tryz.underlying21⟩
instance iUD3:UD Tryz.prog 3 (.int .i64):=⟨Tryz.underlying3⟩
instance iAG3:AS Tryz.prog 3:=⟨by kernel_rfl⟩
instance iAG65:AS Tryz.prog 65:=⟨by kernel_rfl⟩
theorem IU:(Tryz.prog.info? 4).map (·.size)=some 1:=by kernel_rfl
instance iAG4:AS Tryz.prog 4:=⟨by kernel_rfl⟩
instance iFO24_0:FO Tryz.prog 24 0 0:=⟨by kernel_rfl⟩
theorem FL:(Tryz.prog.info? 3).map (·.size)=some 1:=by kernel_rfl
instance iFO24_1:FO Tryz.prog 24 1 2:=⟨by kernel_rfl⟩
instance iFO24_2:FO Tryz.prog 24 2 3:=⟨by kernel_rfl⟩
instance iFO24_3:FO Tryz.prog 24 3 4:=⟨by kernel_rfl⟩
instance iFO24_4:FO Tryz.prog 24 4 5:=⟨by kernel_rfl⟩
instance iFO30_0:FO Tryz.prog 30 0 0:=⟨by kernel_rfl⟩
instance iFO30_6:FO Tryz.prog 30 6 8:=⟨by kernel_rfl⟩
theorem GD:(Tryz.prog.info? 27).map (·.size)=some 1:=by kernel_rfl
theorem GH:ga Tryz.prog 27 26 3 40:=⟨⟨Tryz.t26, .agg #[.bool false, .string ByteArray.empty, .string ByteArray.empty], Tryz.underlying27, by kernel_rfl, by kernel_rfl, by kernel_rfl, by kernel_rfl, by decide, by kernel_rfl⟩⟩
instance iFO30_3:FO Tryz.prog 30 3 5:=⟨by kernel_rfl⟩
instance iAG27:AS Tryz.prog 27:=⟨by kernel_rfl⟩
theorem lQ:(Tryz.prog.info? 28).map (·.size)=some 1:=by kernel_rfl
instance iFO30_5:FO Tryz.prog 30 5 7:=⟨by kernel_rfl⟩
instance iAG28:AS Tryz.prog 28:=⟨by kernel_rfl⟩
theorem Ib:∀ fs, Tryz.prog.underlying 80=some (.struct fs)→fs.toList.map (fun f=>(Tryz.prog.info? f.type).map (·.size))=([10, 7, 1, 1, 1]:List Nat).map some:=by
  intro fs h
  rw [Tryz.underlying80] at h
  cases h
  kernel_rfl
theorem Hk:(Tryz.prog.info? 80).bind (·.zero)=some (.agg #[.int .i64 0, .string ByteArray.empty, .bool false, .string ByteArray.empty, .string ByteArray.empty, .slice none 0 0, .bool false, .slice none 0 0, .string ByteArray.empty, .bool false, .string ByteArray.empty, .string ByteArray.empty, .int .i64 0, .string ByteArray.empty, .string ByteArray.empty, .int .i64 0, .bool false, .int .i64 0, .int .i64 0, .slice none 0 0]):=by kernel_rfl
instance iFO80_0:FO Tryz.prog 80 0 0:=⟨by kernel_rfl⟩
abbrev aa.b (x:aa):List AV:=[.v (.int .i64 x.Gate.Phase), .v (.string x.Gate.Helo), .v (.bool x.Gate.From.Null), .v (.string x.Gate.From.Local), .v (.string x.Gate.From.Domain), .fl (.own 26) 3 (List.flatten (List.map aF.enc x.Gate.To)), .v (.bool x.Gate.Quiet), .mkr 5 (List.map (Value.int .u8) x.Gate.Buf), .v (.string x.Gate.Challenge), .v (.bool x.Gate.Proved), .v (.string ((x.config.Domains.getD 0 (⟨#[]⟩:ByteArray)))), .v (.string ((x.config.Domains.getD 1 (⟨#[]⟩:ByteArray)))), .v (.int .i64 x.config.Expiry), .v (.string x.config.User), .v (.string x.config.Secret), .v (.int .i64 x.config.Log), .v (.bool x.config.Held), .v (.int .i64 x.site), .v (.int .i64 x.at_), .fr (.own 55) false 12 (List.flatten (List.map bi.ienc x.out))]
theorem DY:(Tryz.prog.info? 28).bind (·.zero)=some (.slice none 0 0):=by kernel_rfl
theorem Hn:(Tryz.prog.info? 3).bind (·.zero)=some (.int .i64 0):=by kernel_rfl
theorem Hi:(Tryz.prog.info? 35).bind (·.zero)=some (.int .i64 0):=by kernel_rfl
instance iAG35:AS Tryz.prog 35:=⟨by kernel_rfl⟩
theorem DW:(Tryz.prog.info? 51).bind (·.zero)=some (.agg #[.int .i64 0, .slice none 0 0]):=by kernel_rfl
theorem EY:(Tryz.prog.info? 153).bind (·.zero)=some (.agg #[.pointer none, .slice none 0 0]):=by kernel_rfl
instance iUD106:UD Tryz.prog 106 (.int .u32):=⟨Tryz.underlying106⟩
theorem GW:(Tryz.prog.info? 9).bind (·.zero)=some (.string ByteArray.empty):=by kernel_rfl
theorem Gx:∀ fs, Tryz.prog.underlying 51=some (.struct fs)→fs.toList.map (fun f=>(Tryz.prog.info? f.type).map (·.size))=([1, 1]:List Nat).map some:=by
  intro fs h
  rw [Tryz.underlying51] at h
  cases h
  kernel_rfl
theorem Dw:(Tryz.prog.info? 51).map (·.size)=some 2:=by kernel_rfl
theorem CF:∀ fs, Tryz.prog.underlying 55=some (.struct fs)→fs.toList.map (fun f=>(Tryz.prog.info? f.type).map (·.size))=([2, 1, 8, 1]:List Nat).map some:=by
  intro fs h
  rw [Tryz.underlying55] at h
  cases h
  kernel_rfl
theorem ul:(Tryz.prog.info? 55).bind (·.zero)=some (.agg #[.int .i64 0, .slice none 0 0, .bool false, .bool false, .string ByteArray.empty, .string ByteArray.empty, .slice none 0 0, .slice none 0 0, .bool false, .string ByteArray.empty, .int .i64 0, .bool false]):=by kernel_rfl
theorem xu:(Tryz.prog.info? 55).map (·.size)=some 12:=by kernel_rfl
theorem xi:(Tryz.prog.info? 26).map (·.size)=some 3:=by kernel_rfl
theorem Hp:∀ fs, Tryz.prog.underlying 53=some (.struct fs)→fs.toList.map (fun f=>(Tryz.prog.info? f.type).map (·.size))=([3, 1, 1, 1, 1, 1]:List Nat).map some:=by
  intro fs h
  rw [Tryz.underlying53] at h
  cases h
  kernel_rfl
theorem CX:(Tryz.prog.info? 53).bind (·.zero)=some (.agg #[.bool false, .string ByteArray.empty, .string ByteArray.empty, .slice none 0 0, .slice none 0 0, .bool false, .string ByteArray.empty, .int .i64 0]):=by kernel_rfl
theorem CD:(Tryz.prog.info? 53).map (·.size)=some 8:=by kernel_rfl
instance iFO30_2:FO Tryz.prog 30 2 2:=⟨by kernel_rfl⟩
instance iAG26:AA Tryz.prog 26 3:=⟨by kernel_rfl⟩
theorem Ik:∀ fs, Tryz.prog.underlying 62=some (.struct fs)→fs.toList.map (fun f=>(Tryz.prog.info? f.type).map (·.size))=([1, 1, 1]:List Nat).map some:=by
  intro fs h
  rw [Tryz.underlying62] at h
  cases h
  kernel_rfl
theorem HZ:(Tryz.prog.info? 62).bind (·.zero)=some (.agg #[.int .i64 0, .int .i64 0, .slice none 0 0]):=by kernel_rfl
instance iFO62_0:FO Tryz.prog 62 0 0:=⟨by kernel_rfl⟩
instance iFO62_1:FO Tryz.prog 62 1 1:=⟨by kernel_rfl⟩
instance iFO62_2:FO Tryz.prog 62 2 2:=⟨by kernel_rfl⟩
instance iAG60:AS Tryz.prog 60:=⟨by kernel_rfl⟩
instance iUD60:UD Tryz.prog 60 (.slice 53):=⟨Tryz.underlying60⟩
instance iLiT_Mail:LenI bT.ienc 8:=⟨bT.ilen⟩
instance iSZ53:SZ Tryz.prog 53 8:=⟨by kernel_rfl⟩
instance iAG53:AA Tryz.prog 53 8:=⟨by kernel_rfl⟩
theorem Ct:∀ fs, Tryz.prog.underlying 26=some (.struct fs)→fs.toList.map (fun f=>(Tryz.prog.info? f.type).map (·.size))=([1, 1, 1]:List Nat).map some:=by
  intro fs h
  rw [Tryz.underlying26] at h
  cases h
  kernel_rfl
theorem tP:(Tryz.prog.info? 26).bind (·.zero)=some (.agg #[.bool false, .string ByteArray.empty, .string ByteArray.empty]):=by kernel_rfl
instance iFO26_0:FO Tryz.prog 26 0 0:=⟨by kernel_rfl⟩
instance iFO26_1:FO Tryz.prog 26 1 1:=⟨by kernel_rfl⟩
instance iFO26_2:FO Tryz.prog 26 2 2:=⟨by kernel_rfl⟩
instance iFO53_0:FO Tryz.prog 53 0 0:=⟨by kernel_rfl⟩
instance iFO53_1:FO Tryz.prog 53 1 3:=⟨by kernel_rfl⟩
instance iUD27:UD Tryz.prog 27 (.slice 26):=⟨Tryz.underlying27⟩
instance iLT_Path:LenE aF.enc 3:=⟨aF.len⟩
instance iSZ26:SZ Tryz.prog 26 3:=⟨by kernel_rfl⟩
instance iFO53_2:FO Tryz.prog 53 2 4:=⟨by kernel_rfl⟩
instance iFO53_3:FO Tryz.prog 53 3 5:=⟨by kernel_rfl⟩
instance iFO53_4:FO Tryz.prog 53 4 6:=⟨by kernel_rfl⟩
instance iFO53_5:FO Tryz.prog 53 5 7:=⟨by kernel_rfl⟩
instance iAG62:AA Tryz.prog 62 3:=⟨by kernel_rfl⟩
theorem zX:((Tryz.prog.info? 222).bind (·.zero)).map (·.cells.toList)=some (List.map (Value.int .u32) (List.replicate 16 (0:Int))):=by kernel_rfl
theorem iy:(Tryz.prog.info? 106).map (·.size)=some 1:=by kernel_rfl
theorem Ai:(Tryz.prog.info? 222).map (·.size)=some 16:=by kernel_rfl
instance iUD31:UD Tryz.prog 31 (.slice 3):=⟨Tryz.underlying31⟩
instance iSZ3:SZ Tryz.prog 3 1:=⟨by kernel_rfl⟩
instance iFO30_4:FO Tryz.prog 30 4 6:=⟨by kernel_rfl⟩
instance iFO30_1:FO Tryz.prog 30 1 1:=⟨by kernel_rfl⟩
instance iFO80_3:FO Tryz.prog 80 3 18:=⟨by kernel_rfl⟩
instance iAG55:AA Tryz.prog 55 12:=⟨by kernel_rfl⟩
theorem GG:(Tryz.prog.info? 137).bind (·.zero)=some (.slice none 0 0):=by kernel_rfl
theorem Gn:ga Tryz.prog 137 28 1 24:=⟨⟨Tryz.t28, .slice none 0 0, Tryz.underlying137, by kernel_rfl, by kernel_rfl, by kernel_rfl, by kernel_rfl, by decide, by kernel_rfl⟩⟩
theorem GP:(Tryz.prog.info? 137).map (·.size)=some 1:=by kernel_rfl
instance iAG137:AS Tryz.prog 137:=⟨by kernel_rfl⟩
instance iUD137:UD Tryz.prog 137 (.slice 28):=⟨Tryz.underlying137⟩
instance iLiRow_int_u8:LenI Row_int_u8.ienc 1:=⟨Row_int_u8.ilen⟩
instance iSZ28:SZ Tryz.prog 28 1:=⟨by kernel_rfl⟩
theorem FT:(Tryz.prog.info? 34).map (·.size)=some 1:=by kernel_rfl
theorem Fo:ga Tryz.prog 34 55 12 168:=⟨⟨Tryz.t55, .agg #[.int .i64 0, .slice none 0 0, .bool false, .bool false, .string ByteArray.empty, .string ByteArray.empty, .slice none 0 0, .slice none 0 0, .bool false, .string ByteArray.empty, .int .i64 0, .bool false], Tryz.underlying34, by kernel_rfl, by kernel_rfl, by kernel_rfl, by kernel_rfl, by decide, by kernel_rfl⟩⟩
instance iFO80_4:FO Tryz.prog 80 4 19:=⟨by kernel_rfl⟩
instance iAG34:AS Tryz.prog 34:=⟨by kernel_rfl⟩
theorem Ea:EP Tryz.prog 74 0:=fun p1 p2 n c1 k c2 xs ys m w hx hy hr1 hr2 h1 h2 hp1 hcap hs hk hm=>Tryz.bytes_Cut_all p1 p2 n c1 k c2 xs ys m w hx hy hr1 hr2 h1 h2 hp1 hcap hs hk hm
theorem Bw:((Tryz.prog.info? 91).bind (·.zero)).map (·.cells.toList)=some (List.map (Value.int .u8) (List.replicate 16 (0:Int))):=by kernel_rfl
theorem Gu:((Tryz.prog.info? 205).bind (·.zero)).map (·.cells.toList)=some (List.map (Value.int .u8) (List.replicate 64 (0:Int))):=by kernel_rfl
theorem EX:(Tryz.prog.info? 225).bind (·.zero)=some (.agg #[.int .u32 0, .int .u32 0, .int .u32 0, .int .u32 0]):=by kernel_rfl
theorem EI:((Tryz.prog.info? 225).bind (·.zero)).map (·.cells.toList)=some (List.map (Value.int .u32) (List.replicate 4 (0:Int))):=by kernel_rfl
theorem sQ:(Tryz.prog.info? 225).map (·.size)=some 4:=by kernel_rfl
theorem Gy:(Tryz.prog.info? 241).map (·.size)=some 64:=by kernel_rfl
theorem Gt:(Tryz.prog.info? 244).map (·.size)=some 4:=by kernel_rfl
instance iUD105:UD Tryz.prog 105 (.int .u64):=⟨Tryz.underlying105⟩
theorem xG:(Tryz.prog.info? 91).map (·.size)=some 16:=by kernel_rfl
theorem Gr:(Tryz.prog.info? 205).map (·.size)=some 64:=by kernel_rfl
instance iFO80_1:FO Tryz.prog 80 1 10:=⟨by kernel_rfl⟩
instance iFO30_7:FO Tryz.prog 30 7 9:=⟨by kernel_rfl⟩
theorem me:(Tryz.prog.info? 122).bind (·.zero)=some (.agg #[.int .i64 0, .string ByteArray.empty, .bool false, .string ByteArray.empty, .string ByteArray.empty, .slice none 0 0]):=by kernel_rfl
theorem tb:∀ fs, Tryz.prog.underlying 122=some (.struct fs)→fs.toList.map (fun f=>(Tryz.prog.info? f.type).map (·.size))=([1, 1, 3, 1]:List Nat).map some:=by
  intro fs h
  rw [Tryz.underlying122] at h
  cases h
  kernel_rfl
theorem gp:(Tryz.prog.info? 122).map (·.size)=some 6:=by kernel_rfl
instance iAG122:AA Tryz.prog 122 6:=⟨by kernel_rfl⟩
instance iFO122_0:FO Tryz.prog 122 0 0:=⟨by kernel_rfl⟩
theorem EN:(Tryz.prog.info? 120).bind (·.zero)=some (.slice none 0 0):=by kernel_rfl
theorem GA:(Tryz.prog.info? 120).map (·.size)=some 1:=by kernel_rfl
instance iAG120:AS Tryz.prog 120:=⟨by kernel_rfl⟩
theorem rQ:(Tryz.prog.info? 181).bind (·.zero)=some (.agg #[.string ByteArray.empty, .string ByteArray.empty]):=by kernel_rfl
theorem zw:∀ fs, Tryz.prog.underlying 181=some (.struct fs)→fs.toList.map (fun f=>(Tryz.prog.info? f.type).map (·.size))=([1, 1]:List Nat).map some:=by
  intro fs h
  rw [Tryz.underlying181] at h
  cases h
  kernel_rfl
theorem qo:(Tryz.prog.info? 181).map (·.size)=some 2:=by kernel_rfl
instance iAG181:AA Tryz.prog 181 2:=⟨by kernel_rfl⟩
instance iUD49:UD Tryz.prog 49 (.slice 9):=⟨Tryz.underlying49⟩
instance iSZ9:SZ Tryz.prog 9 1:=⟨by kernel_rfl⟩
instance iUD120:UD Tryz.prog 120 (.slice 181):=⟨Tryz.underlying120⟩
instance iLT_Param:LenE bb.enc 2:=⟨bb.len⟩
instance iFO181_0:FO Tryz.prog 181 0 0:=⟨by kernel_rfl⟩
instance iSZ181:SZ Tryz.prog 181 2:=⟨by kernel_rfl⟩
theorem GO:ga Tryz.prog 120 181 2 32:=⟨⟨Tryz.t181, .agg #[.string ByteArray.empty, .string ByteArray.empty], Tryz.underlying120, by kernel_rfl, by kernel_rfl, by kernel_rfl, by kernel_rfl, by decide, by kernel_rfl⟩⟩
instance iFO122_1:FO Tryz.prog 122 1 1:=⟨by kernel_rfl⟩
instance iFO122_3:FO Tryz.prog 122 3 5:=⟨by kernel_rfl⟩
instance iFO181_1:FO Tryz.prog 181 1 1:=⟨by kernel_rfl⟩
instance iFO122_2:FO Tryz.prog 122 2 2:=⟨by kernel_rfl⟩
instance iFO80_2:FO Tryz.prog 80 2 17:=⟨by kernel_rfl⟩
instance iUD34:UD Tryz.prog 34 (.slice 55):=⟨Tryz.underlying34⟩
instance iLiT_Out:LenI bi.ienc 12:=⟨bi.ilen⟩
instance iSZ55:SZ Tryz.prog 55 12:=⟨by kernel_rfl⟩
instance iFO55_0:FO Tryz.prog 55 0 0:=⟨by kernel_rfl⟩
instance iFO51_0:FO Tryz.prog 51 0 0:=⟨by kernel_rfl⟩
instance iFO55_1:FO Tryz.prog 55 1 2:=⟨by kernel_rfl⟩
abbrev bp.c (x:bp) (r:List AV):List AV:=vi x.Phase::vs x.Helo::vb x.From.Null::vs x.From.Local::vs x.From.Domain :: .fl .shr 3 (flatten (map aF.enc x.To))::vb x.Quiet::fb x.Buf::vs x.Challenge::vb x.Proved::r
abbrev bT.c (x:bT) (r:List AV):List AV:=vb x.From.Null::vs x.From.Local::vs x.From.Domain :: .fl .shr 3 (flatten (map aF.enc x.To))::fb x.Body::vb x.Quiet::vs x.Helo::vi x.At::r
abbrev bq.c (x:bq) (r:List AV):List AV:=vs (x.Domains.getD 0 z0)::vs (x.Domains.getD 1 z0)::vi x.Expiry::vs x.User::vs x.Secret::vi x.Log::vb x.Held::r
abbrev cw.c (x:cw) (r:List AV):List AV:=vi x.Kind::vs x.Text::vb x.Path.Null::vs x.Path.Local::vs x.Path.Domain :: .fl .shr 2 (flatten (map bb.enc x.Params))::r
theorem pq (b:(List Int)) (r:Bool) (h:Sh.dt b=some r):cU Tryz.prog 18 [.fl .shr 1 (map (int .u8) b)] (.v (.bool r)):=by
  unfold Sh.dt at h
  refine yO 61 func18 fun g0 hn hio => ?_
  refine bE hn 1 [0] ?_
  refine af ?_
  refine bE hn 1 [0,3] ?_
  refine bV h (fun (s31:Int)=>[(0,fb b),(3,vi s31)]) (fun (():Unit)=>[(0,fb b)]) ?_ ?_
  ·rintro ⟨⟩ h
   refine aB (af ?_)
   refine bk h (fun (s53:Bool)=>[(2,vb s53)]) ?_ ?_
   ·rintro s53 h
    refine aB (aS ?_)
    obtain rfl:=zi h
    exact aW hio rfl (.tmp _ _ .nil) rfl rfl
   ·intro u54 h hl55 hr56
    refine aR h (fun hg6_3 h => ?_) (fun hg6_3 h => ?_)
    ·refine yx hn 4 ?_
     refine yd hg6_3 9 ?_
     refine ye [2] ?_
     exact hl55 _ (zi h).symm
    ·obtain ⟨v50, hv50, h⟩:=zn h
     obtain ⟨v51, hv51, h⟩:=zn h
     obtain ⟨v52, hv52, h⟩:=zn h
     refine yx hn 4 ?_
     refine yd hg6_3 3 ?_
     refine ys 0 ⟨lb hv50⟩ ?_
     refine ys 0 ⟨li hv51⟩ ?_
     refine ys 3 ⟨ll hv52⟩ ?_
     refine ye [2] ?_
     exact hl55 _ (zi h).symm
  ·rintro u38 hl39 hr40 s31 rr43 h ho41
   refine af ?_
   refine bE hn 4 [0,3,7] ?_
   refine aP _ rfl (fun hb44 => ?_) (fun hb44 => ?_)
   ·have h:=aT hb44 h
    refine ba ?_
    refine aB (af ?_)
    refine bz ?_
    refine af ?_
    refine bk h (fun (s45:Bool)=>[(0,fb b),(3,vi s31),(48,vb s45)]) ?_ ?_
    ·rintro s45 h
     refine aB ?_
     refine aP _ rfl (fun hb49 => ?_) (fun hb49 => ?_)
     ·have h:=aT hb49 h
      refine bE hn 1 [2] ?_
      refine aS ?_
      refine bA ?_
      refine aO ?_
      refine aO ?_
      refine bA ?_
      refine aO ?_
      have h:=hr40 _ (ho41 _ (zi h).symm).symm
      obtain rfl:=zi h
      exact aW hio rfl (.tmp _ _ .nil) rfl rfl
     ·have h:=aV hb49 h
      refine ba ?_
      refine bF ?_
      refine aB ?_
      obtain ⟨v23, hv23, h⟩:=zn h
      refine yx hn 1 ?_
      refine ys 0 ⟨lb hv23⟩ ?_
      refine yw [3] 1 ?_
      refine ye [0,3] ?_
      exact ci _ (zi h).symm rfl
    ·intro u46 h hl47 hr48
     obtain ⟨v2, hv2, h⟩:=zn h
     obtain ⟨v3, hv3, h⟩:=zn h
     refine aR h (fun hg4_5 h => ?_) (fun hg4_5 h => ?_)
     ·obtain ⟨v4, hv4, h⟩:=zn h
      refine aR h (fun hg4_11 h => ?_) (fun hg4_11 h => ?_)
      ·refine yx hn 2 ?_
       refine ys 0 ⟨li hv2⟩ ?_
       refine ys 2 ⟨ll hv3⟩ ?_
       refine yd hg4_5 1 ?_
       refine ys 4 ⟨lb hv4⟩ ?_
       refine yd hg4_11 27 ?_
       refine ye [0,3,48] ?_
       exact hl47 _ (zi h).symm
      ·obtain ⟨v5, hv5, h⟩:=zn h
       obtain ⟨v6, hv6, h⟩:=zn h
       obtain ⟨v7, hv7, h⟩:=zn h
       refine aR h (fun hg4_20 h => ?_) (fun hg4_20 h => ?_)
       ·refine yx hn 2 ?_
        refine ys 0 ⟨li hv2⟩ ?_
        refine ys 2 ⟨ll hv3⟩ ?_
        refine yd hg4_5 1 ?_
        refine ys 4 ⟨lb hv4⟩ ?_
        refine yd hg4_11 2 ?_
        refine ys 0 ⟨lb hv5⟩ ?_
        refine ys 0 ⟨li hv6⟩ ?_
        refine ys 4 ⟨ll hv7⟩ ?_
        refine yd hg4_20 18 ?_
        refine ye [0,3,48] ?_
        exact hl47 _ (zi h).symm
       ·obtain ⟨v8, hv8, h⟩:=zn h
        obtain ⟨v9, hv9, h⟩:=zn h
        refine aR h (fun hg4_26 h => ?_) (fun hg4_26 h => ?_)
        ·refine aR h (fun hg4_29 h => ?_) (fun hg4_29 h => ?_)
         ·refine yx hn 2 ?_
          refine ys 0 ⟨li hv2⟩ ?_
          refine ys 2 ⟨ll hv3⟩ ?_
          refine yd hg4_5 1 ?_
          refine ys 4 ⟨lb hv4⟩ ?_
          refine yd hg4_11 2 ?_
          refine ys 0 ⟨lb hv5⟩ ?_
          refine ys 0 ⟨li hv6⟩ ?_
          refine ys 4 ⟨ll hv7⟩ ?_
          refine yd hg4_20 2 ?_
          refine ys 0 ⟨li hv8⟩ ?_
          refine ys 2 ⟨ll hv9⟩ ?_
          refine yd hg4_26 3 ?_
          refine yd hg4_29 9 ?_
          refine ye [0,3,48] ?_
          exact hl47 _ (zi h).symm
         ·obtain ⟨v10, hv10, h⟩:=zn h
          obtain ⟨v11, hv11, h⟩:=zn h
          obtain ⟨v12, hv12, h⟩:=zn h
          refine yx hn 2 ?_
          refine ys 0 ⟨li hv2⟩ ?_
          refine ys 2 ⟨ll hv3⟩ ?_
          refine yd hg4_5 1 ?_
          refine ys 4 ⟨lb hv4⟩ ?_
          refine yd hg4_11 2 ?_
          refine ys 0 ⟨lb hv5⟩ ?_
          refine ys 0 ⟨li hv6⟩ ?_
          refine ys 4 ⟨ll hv7⟩ ?_
          refine yd hg4_20 2 ?_
          refine ys 0 ⟨li hv8⟩ ?_
          refine ys 2 ⟨ll hv9⟩ ?_
          refine yd hg4_26 3 ?_
          refine yd hg4_29 2 ?_
          refine ys 0 ⟨lb hv10⟩ ?_
          refine ys 0 ⟨li hv11⟩ ?_
          refine ys 4 ⟨ll hv12⟩ ?_
          refine ye [0,3,48] ?_
          exact hl47 _ (zi h).symm
        ·refine yx hn 2 ?_
         refine ys 0 ⟨li hv2⟩ ?_
         refine ys 2 ⟨ll hv3⟩ ?_
         refine yd hg4_5 1 ?_
         refine ys 4 ⟨lb hv4⟩ ?_
         refine yd hg4_11 2 ?_
         refine ys 0 ⟨lb hv5⟩ ?_
         refine ys 0 ⟨li hv6⟩ ?_
         refine ys 4 ⟨ll hv7⟩ ?_
         refine yd hg4_20 2 ?_
         refine ys 0 ⟨li hv8⟩ ?_
         refine ys 2 ⟨ll hv9⟩ ?_
         refine yd hg4_26 12 ?_
         refine ye [0,3,48] ?_
         exact hl47 _ (zi h).symm
     ·obtain ⟨v13, hv13, h⟩:=zn h
      obtain ⟨v14, hv14, h⟩:=zn h
      refine aR h (fun hg4_26 h => ?_) (fun hg4_26 h => ?_)
      ·refine aR h (fun hg4_29 h => ?_) (fun hg4_29 h => ?_)
       ·refine yx hn 2 ?_
        refine ys 0 ⟨li hv2⟩ ?_
        refine ys 2 ⟨ll hv3⟩ ?_
        refine yd hg4_5 17 ?_
        refine ys 0 ⟨li hv13⟩ ?_
        refine ys 2 ⟨ll hv14⟩ ?_
        refine yd hg4_26 3 ?_
        refine yd hg4_29 9 ?_
        refine ye [0,3,48] ?_
        exact hl47 _ (zi h).symm
       ·obtain ⟨v15, hv15, h⟩:=zn h
        obtain ⟨v16, hv16, h⟩:=zn h
        obtain ⟨v17, hv17, h⟩:=zn h
        refine yx hn 2 ?_
        refine ys 0 ⟨li hv2⟩ ?_
        refine ys 2 ⟨ll hv3⟩ ?_
        refine yd hg4_5 17 ?_
        refine ys 0 ⟨li hv13⟩ ?_
        refine ys 2 ⟨ll hv14⟩ ?_
        refine yd hg4_26 3 ?_
        refine yd hg4_29 2 ?_
        refine ys 0 ⟨lb hv15⟩ ?_
        refine ys 0 ⟨li hv16⟩ ?_
        refine ys 4 ⟨ll hv17⟩ ?_
        refine ye [0,3,48] ?_
        exact hl47 _ (zi h).symm
      ·refine yx hn 2 ?_
       refine ys 0 ⟨li hv2⟩ ?_
       refine ys 2 ⟨ll hv3⟩ ?_
       refine yd hg4_5 17 ?_
       refine ys 0 ⟨li hv13⟩ ?_
       refine ys 2 ⟨ll hv14⟩ ?_
       refine yd hg4_26 12 ?_
       refine ye [0,3,48] ?_
       exact hl47 _ (zi h).symm
   ·have h:=aV hb44 h
    refine ck ?_
    refine bh ?_
    refine bh ?_
    refine cj ?_
    refine aD [0] (by kernel_rfl) (es':=[(_,_)]) rfl ?_
    exact hl39 _ (ho41 _ (zi h).symm).symm
theorem pK (l:(List Int)) (r:(List Int)) (h:Sh.fH l=some r):cU Tryz.prog 33 [.fl .shr 1 (map (int .u8) l)] (.fl (.own 5) 1 (map (int .u8) r)):=by
  unfold Sh.fH at h
  refine yO 7 func33 fun g0 hn hio => ?_
  refine bE hn 1 [0] ?_
  refine bE hn 1 [0,3] ?_
  refine af ?_
  obtain ⟨v1, hv1, h⟩:=zn h
  refine yx hn 2 ?_
  refine yS (.fl (.own 5) 1 (map (int .u8) v1)) 0 ⟨mA _ _ _ _ fV rfl rfl (fY _) hv1 (congrArg (map _) (mK hv1))⟩ ?_
  refine ya 0 ?_
  refine bS [2] ?_
  refine aS ?_
  obtain rfl:=zi h
  exact aW hio rfl (.tmp _ _ .nil) rfl rfl
theorem oD (b:(List Int)) (r:(List Int)) (h:Sh.je b=some r):cU Tryz.prog 21 [.fl .shr 1 (map (int .u8) b)] (.fl (.own 5) 1 (map (int .u8) r)):=by
  unfold Sh.je at h
  refine yO 41 func21 fun g0 hn hio => ?_
  refine bE hn 1 [0] ?_
  refine bE hn 1 [0,3] ?_
  refine af ?_
  refine bE hn 1 [0,3,4] ?_
  refine nY (fs:=[(0,fb b),(3,.fl (.own 5) 1 (map (int .u8) [])),(4,vi 0)]) (.same _ (.sub _ (cy 5 1) rfl (.same _ .nil))) ?_
  refine bV h (fun ((s43,s44):(List Int)×Int)=>[(0,fb b),(3,.fl (.own 5) 1 (map (int .u8) s43)),(4,vi s44)]) (fun (s60:(List Int))=>[(3,.fl (.own 5) 1 (map (int .u8) s60))]) ?_ ?_
  ·rintro s60 h
   refine aB (af ?_)
   obtain ⟨v82, hv82, h⟩:=zn h
   refine yx hn 0 ?_
   refine ym 0 ?_
   refine yS (.fl (.own 5) 1 (map (int .u8) [46,13,10])) 0 ⟨bM _ _ 1 (.int .u8 0) (map (int .u8) [46,13,10]) [(0,.int .u8 46),(1,.int .u8 13),(2,.int .u8 10)] underlying28 kI qV (fun _ V w o a hv hes=>by simp only [List.map_toArray,List.map_cons,List.map_nil]; try rfl) (cR (by simp [Instr.fill,Value.cells]; rfl) (by simp [List.range,List.range.loop] <;> rfl)) (by simp [Value.oneCell']) rfl (by decide) (by decide) (by decide)⟩ ?_
   refine yp fV hv82 0 ?_
   refine ya 0 ?_
   refine bS [2] ?_
   refine aS ?_
   obtain rfl:=zi h
   exact aW hio rfl (.tmp _ _ .nil) rfl rfl
  ·rintro u61 hl62 hr63 ⟨s43, s44⟩ rr66 h ho64
   refine af ?_
   refine bE hn 4 [0,3,4,8] ?_
   refine aP _ rfl (fun hb67 => ?_) (fun hb67 => ?_)
   ·have h:=aT hb67 h
    refine ba ?_
    refine aB (af ?_)
    refine bz ?_
    refine af ?_
    refine bk h (fun (s73:(List Int))=>[(0,fb b),(4,vi s44),(3,.fl (.own 5) 1 (map (int .u8) s73))]) ?_ ?_
    ·rintro s73 h
     refine aB ?_
     obtain ⟨v22, hv22, h⟩:=zn h
     obtain ⟨v23, hv23, h⟩:=zn h
     obtain ⟨v24, hv24, h⟩:=zn h
     refine yx hn 0 ?_
     refine ym 2 ?_
     refine ys 0 ⟨li hv22⟩ ?_
     refine ys 0 ⟨ll hv23⟩ ?_
     refine yS (.fl (.own 5) 1 (map (int .u8) [v23])) 0 ⟨bM _ _ 1 (.int .u8 0) (map (int .u8) [v23]) [(0,.int .u8 v23)] underlying28 kI qV (fun _ V w o a hv hes=>by have e0:=cN hv hes (x := .tmp 35) rfl; simp only [List.map_toArray,List.map_cons,List.map_nil,e0]; try rfl) (cR (by simp [Instr.fill,Value.cells]; rfl) (by simp [List.range,List.range.loop] <;> rfl)) (by simp [Value.oneCell']) rfl (by decide) (by decide) (by decide)⟩ ?_
     refine yp fV hv24 0 ?_
     refine ya 0 ?_
     refine ye [0,4,3] ?_
     refine bF ?_
     refine aB ?_
     obtain ⟨v25, hv25, h⟩:=zn h
     refine yx hn 1 ?_
     refine ys 0 ⟨lb hv25⟩ ?_
     refine yw [4] 1 ?_
     refine ye [0,3,4] ?_
     exact ci _ (zi h).symm rfl
    ·intro u74 h hl75 hr76
     refine af ?_
     refine bk h (fun (s77:Bool)=>[(0,fb b),(3,.fl (.own 5) 1 (map (int .u8) s43)),(4,vi s44),(27,vb s77)]) ?_ ?_
     ·rintro s77 h
      refine aB ?_
      refine aP _ rfl (fun hb81 => ?_) (fun hb81 => ?_)
      ·have h:=aT hb81 h
       obtain ⟨v12, hv12, h⟩:=zn h
       refine yx hn 0 ?_
       refine ym 0 ?_
       refine yS (.fl (.own 5) 1 (map (int .u8) [46])) 0 ⟨bM _ _ 1 (.int .u8 0) (map (int .u8) [46]) [(0,.int .u8 46)] underlying28 kI qV (fun _ V w o a hv hes=>by simp only [List.map_toArray,List.map_cons,List.map_nil]; try rfl) (cR (by simp [Instr.fill,Value.cells]; rfl) (by simp [List.range,List.range.loop] <;> rfl)) (by simp [Value.oneCell']) rfl (by decide) (by decide) (by decide)⟩ ?_
       refine yp fV hv12 0 ?_
       refine ya 0 ?_
       refine ye [0,4,3] ?_
       exact hl75 _ (zi h).symm
      ·have h:=aV hb81 h
       refine ba ?_
       refine aD [0,2,1] (by kernel_rfl) (es':=[(_,_),(_,_),(_,_)]) rfl ?_
       exact hl75 _ (zi h).symm
     ·intro u78 h hl79 hr80
      obtain ⟨v2, hv2, h⟩:=zn h
      obtain ⟨v3, hv3, h⟩:=zn h
      refine aR h (fun hg5_5 h => ?_) (fun hg5_5 h => ?_)
      ·refine aR h (fun hg5_8 h => ?_) (fun hg5_8 h => ?_)
       ·refine yx hn 2 ?_
        refine ys 0 ⟨li hv2⟩ ?_
        refine ys 2 ⟨ll hv3⟩ ?_
        refine yd hg5_5 3 ?_
        refine yd hg5_8 8 ?_
        refine ye [0,3,4,27] ?_
        exact hl79 _ (zi h).symm
       ·obtain ⟨v4, hv4, h⟩:=zn h
        obtain ⟨v5, hv5, h⟩:=zn h
        obtain ⟨v6, hv6, h⟩:=zn h
        refine yx hn 2 ?_
        refine ys 0 ⟨li hv2⟩ ?_
        refine ys 2 ⟨ll hv3⟩ ?_
        refine yd hg5_5 3 ?_
        refine yd hg5_8 2 ?_
        refine ys 0 ⟨lb hv4⟩ ?_
        refine ys 0 ⟨li hv5⟩ ?_
        refine ys 3 ⟨ll hv6⟩ ?_
        refine ye [0,3,4,27] ?_
        exact hl79 _ (zi h).symm
      ·refine yx hn 2 ?_
       refine ys 0 ⟨li hv2⟩ ?_
       refine ys 2 ⟨ll hv3⟩ ?_
       refine yd hg5_5 11 ?_
       refine ye [0,3,4,27] ?_
       exact hl79 _ (zi h).symm
   ·have h:=aV hb67 h
    refine ck ?_
    refine bh ?_
    refine bh ?_
    refine cj ?_
    refine aD [1] (by kernel_rfl) (es':=[(_,_)]) rfl ?_
    exact hl62 _ (ho64 _ (zi h).symm).symm
theorem mV (b:(List Int)) (r:(List Int)) (h:Sh.dF b=some r):cU Tryz.prog 34 [.fl .shr 1 (map (int .u8) b)] (.fl (.own 5) 1 (map (int .u8) r)):=by
  unfold Sh.dF at h
  refine yO 39 func34 fun g0 hn hio => ?_
  refine bE hn 1 [0] ?_
  refine bE hn 1 [0,3] ?_
  refine af ?_
  refine bE hn 1 [0,3,4] ?_
  refine nY (fs:=[(0,fb b),(3,.fl (.own 5) 1 (map (int .u8) [])),(4,vi 0)]) (.same _ (.sub _ (cy 5 1) rfl (.same _ .nil))) ?_
  refine bV h (fun ((s43,s44):(List Int)×Int)=>[(0,fb b),(3,.fl (.own 5) 1 (map (int .u8) s43)),(4,vi s44)]) (fun (s60:(List Int))=>[(3,.fl (.own 5) 1 (map (int .u8) s60))]) ?_ ?_
  ·rintro s60 h
   refine aB ?_
   refine gP hn 0 ?_
   refine ym 0 ?_
   refine ya 0 ?_
   refine bS [2] ?_
   refine aS ?_
   obtain rfl:=zi h
   exact aW hio rfl (.tmp _ _ .nil) rfl rfl
  ·rintro u61 hl62 hr63 ⟨s43, s44⟩ rr66 h ho64
   refine af ?_
   refine bE hn 4 [0,3,4,8] ?_
   refine aP _ rfl (fun hb67 => ?_) (fun hb67 => ?_)
   ·have h:=aT hb67 h
    refine ba ?_
    refine aB (af ?_)
    refine bz ?_
    refine af ?_
    refine bk h (fun (s73:(List Int))=>[(0,fb b),(4,vi s44),(3,.fl (.own 5) 1 (map (int .u8) s73))]) ?_ ?_
    ·rintro s73 h
     refine aB ?_
     obtain ⟨v22, hv22, h⟩:=zn h
     obtain ⟨v23, hv23, h⟩:=zn h
     obtain ⟨v24, hv24, h⟩:=zn h
     refine yx hn 0 ?_
     refine ym 2 ?_
     refine ys 0 ⟨li hv22⟩ ?_
     refine ys 0 ⟨ll hv23⟩ ?_
     refine yS (.fl (.own 5) 1 (map (int .u8) [v23])) 0 ⟨bM _ _ 1 (.int .u8 0) (map (int .u8) [v23]) [(0,.int .u8 v23)] underlying28 kI qV (fun _ V w o a hv hes=>by have e0:=cN hv hes (x := .tmp 35) rfl; simp only [List.map_toArray,List.map_cons,List.map_nil,e0]; try rfl) (cR (by simp [Instr.fill,Value.cells]; rfl) (by simp [List.range,List.range.loop] <;> rfl)) (by simp [Value.oneCell']) rfl (by decide) (by decide) (by decide)⟩ ?_
     refine yp fV hv24 0 ?_
     refine ya 0 ?_
     refine ye [0,4,3] ?_
     refine bF ?_
     refine aB ?_
     obtain ⟨v25, hv25, h⟩:=zn h
     refine yx hn 1 ?_
     refine ys 0 ⟨lb hv25⟩ ?_
     refine yw [4] 1 ?_
     refine ye [0,3,4] ?_
     exact ci _ (zi h).symm rfl
    ·intro u74 h hl75 hr76
     refine af ?_
     refine bk h (fun (s77:Bool)=>[(0,fb b),(3,.fl (.own 5) 1 (map (int .u8) s43)),(4,vi s44),(27,vb s77)]) ?_ ?_
     ·rintro s77 h
      refine aB ?_
      refine aP _ rfl (fun hb81 => ?_) (fun hb81 => ?_)
      ·have h:=aT hb81 h
       obtain ⟨v12, hv12, h⟩:=zn h
       refine yx hn 0 ?_
       refine ym 0 ?_
       refine yS (.fl (.own 5) 1 (map (int .u8) [46])) 0 ⟨bM _ _ 1 (.int .u8 0) (map (int .u8) [46]) [(0,.int .u8 46)] underlying28 kI qV (fun _ V w o a hv hes=>by simp only [List.map_toArray,List.map_cons,List.map_nil]; try rfl) (cR (by simp [Instr.fill,Value.cells]; rfl) (by simp [List.range,List.range.loop] <;> rfl)) (by simp [Value.oneCell']) rfl (by decide) (by decide) (by decide)⟩ ?_
       refine yp fV hv12 0 ?_
       refine ya 0 ?_
       refine ye [0,4,3] ?_
       exact hl75 _ (zi h).symm
      ·have h:=aV hb81 h
       refine ba ?_
       refine aD [0,2,1] (by kernel_rfl) (es':=[(_,_),(_,_),(_,_)]) rfl ?_
       exact hl75 _ (zi h).symm
     ·intro u78 h hl79 hr80
      obtain ⟨v2, hv2, h⟩:=zn h
      obtain ⟨v3, hv3, h⟩:=zn h
      refine aR h (fun hg5_5 h => ?_) (fun hg5_5 h => ?_)
      ·refine aR h (fun hg5_8 h => ?_) (fun hg5_8 h => ?_)
       ·refine yx hn 2 ?_
        refine ys 0 ⟨li hv2⟩ ?_
        refine ys 2 ⟨ll hv3⟩ ?_
        refine yd hg5_5 3 ?_
        refine yd hg5_8 8 ?_
        refine ye [0,3,4,27] ?_
        exact hl79 _ (zi h).symm
       ·obtain ⟨v4, hv4, h⟩:=zn h
        obtain ⟨v5, hv5, h⟩:=zn h
        obtain ⟨v6, hv6, h⟩:=zn h
        refine yx hn 2 ?_
        refine ys 0 ⟨li hv2⟩ ?_
        refine ys 2 ⟨ll hv3⟩ ?_
        refine yd hg5_5 3 ?_
        refine yd hg5_8 2 ?_
        refine ys 0 ⟨lb hv4⟩ ?_
        refine ys 0 ⟨li hv5⟩ ?_
        refine ys 3 ⟨ll hv6⟩ ?_
        refine ye [0,3,4,27] ?_
        exact hl79 _ (zi h).symm
      ·refine yx hn 2 ?_
       refine ys 0 ⟨li hv2⟩ ?_
       refine ys 2 ⟨ll hv3⟩ ?_
       refine yd hg5_5 11 ?_
       refine ye [0,3,4,27] ?_
       exact hl79 _ (zi h).symm
   ·have h:=aV hb67 h
    refine ck ?_
    refine bh ?_
    refine bh ?_
    refine cj ?_
    refine aD [1] (by kernel_rfl) (es':=[(_,_)]) rfl ?_
    exact hl62 _ (ho64 _ (zi h).symm).symm
theorem gO (r:bq) (h:Sh.fj  = some r):cU Tryz.prog 20 [] (.agg [.v (.string ((r.Domains.getD 0 (⟨#[]⟩:ByteArray)))), .v (.string ((r.Domains.getD 1 (⟨#[]⟩:ByteArray)))), .v (.int .i64 r.Expiry), .v (.string r.User), .v (.string r.Secret), .v (.int .i64 r.Log), .v (.bool r.Held)]):=by
  unfold Sh.fj at h
  refine yO 3 func20 fun g0 hn hio => ?_
  refine gP hn 0 ?_
  refine yS (.box 24 [vs z0,vs z0,vi 0,vs z0,vs z0,vi 0,vb false]) 0 ⟨oA (bR _ _ GS)⟩ ?_
  refine bS [0] ?_
  refine gP hn 0 ?_
  refine yS (.agg [vs (⟨#[97]⟩:ByteArray),vs (⟨#[98]⟩:ByteArray)]) 0 ⟨uq _ _ (.agg #[.string ByteArray.empty,.string ByteArray.empty]) (map Value.string (([(⟨#[97]⟩:ByteArray),(⟨#[98]⟩:ByteArray)]:List ByteArray))) [(0,.string (⟨#[97]⟩:ByteArray)),(1,.string (⟨#[98]⟩:ByteArray))] underlying22 up Iq (fun _ V w o a hv hes=>by simp only [List.map_toArray,List.map_cons,List.map_nil]; try rfl) (cR (by simp [Instr.fill,Value.cells]; rfl) (by simp)) rfl⟩ ?_
  refine yS (.agg [vs (⟨#[97]⟩:ByteArray),vs (⟨#[98]⟩:ByteArray),vi 9,vs (⟨#[117]⟩:ByteArray),vs (⟨#[115]⟩:ByteArray),vi 9000,vb false]) 1 ⟨cp _ _ _ _ [2,1,1,1,1,1] _ _ underlying24 GS (HS _ underlying24) (.copy _ (.copy _ (.copy _ (.copy _ (.copy _ ni.nil))))) rfl rfl rfl⟩ ?_
  refine bS [0] ?_
  refine aS ?_
  obtain rfl:=zi h
  exact aW hio rfl (.cellA _ _ _ _ underlying24 rfl GN .nil) rfl rfl
theorem rN (challenge:ByteArray) (r:bp) (h:Sh.qy challenge=some r):cU Tryz.prog 22 [.v (.string challenge)] (.agg [.v (.int .i64 r.Phase), .v (.string r.Helo), .v (.bool r.From.Null), .v (.string r.From.Local), .v (.string r.From.Domain), .fl (.own 26) 3 (flatten (map aF.enc r.To)), .v (.bool r.Quiet), .fl (.own 5) 1 (map (int .u8) r.Buf), .v (.string r.Challenge), .v (.bool r.Proved)]):=by
  unfold Sh.qy at h
  refine yO 5 func22 fun g0 hn hio => ?_
  refine gP hn 0 ?_
  refine yS (.box 30 [vi 0,vs z0,vb false,vs z0,vs z0,vz,vb false,vz,vs z0,vb false]) 0 ⟨oA (bR _ _ xh)⟩ ?_
  refine bS [0,2] ?_
  refine gP hn 1 ?_
  refine yS (.agg [vi 0,vs z0,vb false,vs z0,vs z0,vz,vb false,vz,vs challenge,vb false]) 1 ⟨cp _ _ _ _ [1,1,3,1,1,1,1,1] _ _ underlying30 xh (Fw _ underlying30) (.copy _ (.copy _ ni.nil)) rfl rfl rfl⟩ ?_
  refine bS [2] ?_
  refine aS ?_
  refine dm (fs:=[(2,.box 30 [vi 0,vs z0,vb false,vs z0,vs z0,.fl (.own 26) 3 (flatten (map aF.enc [])),vb false,.fl (.own 5) 1 (map (int .u8) []),vs challenge,vb false])]) (.box _ _ (ai (aM _) (ai (aM _) (ai (aM _) (ai (aM _) (ai (aM _) (ai (cy 26 3) (ai (aM _) (ai (cy 5 1) (ai (aM _) (ai (aM _) (cl))))))))))) rfl .nil) ?_
  obtain rfl:=zi h
  exact aW hio rfl (.cellA _ _ _ _ underlying30 rfl tN .nil) rfl rfl
theorem pp (s:ByteArray) (sep:ByteArray) (sepSave:Int) (r:(ByteArray×ByteArray×Int)) (h:Sh.jE s sep sepSave=some r):cU Tryz.prog 93 [.v (.string s), .v (.string sep), .v (.int .i64 sepSave)] (.cloB 119 [.box 9 [.v (.string r.1)], .box 9 [.v (.string r.2.1)], .box 3 [.v (.int .i64 r.2.2)]]):=by
  unfold Sh.jE at h
  refine yO 8 func93 fun g0 hn hio => ?_
  refine bE hn 4 [3,4,5] ?_
  refine gP hn 0 ?_
  refine yk [4,3,5] [] ?_
  refine yt (7,.cloB 119 [.box 9 [vs sep],.box 9 [vs s],.box 3 [vi sepSave]]) 0 ⟨wU _ _ [4,3,5] [.box 9 [vs sep],.box 9 [vs s],.box 3 [vi sepSave]] rfl rfl rfl⟩ ?_
  refine ya 0 ?_
  refine bS [6] ?_
  refine aS ?_
  obtain rfl:=zi h
  exact aW hio rfl (.tmp _ _ .nil) rfl rfl
theorem gL (s:ByteArray) (sep:ByteArray) (r:(ByteArray×ByteArray×Int)) (h:Sh.fm s sep=some r):cU Tryz.prog 80 [.v (.string s), .v (.string sep)] (.cloB 119 [.box 9 [.v (.string r.1)], .box 9 [.v (.string r.2.1)], .box 3 [.v (.int .i64 r.2.2)]]):=by
  unfold Sh.fm at h
  refine yO 8 func80 fun g0 hn hio => ?_
  refine bE hn 1 [0,1] ?_
  refine af ?_
  obtain ⟨v1, hv1, h⟩:=zn h
  refine yx hn 2 ?_
  refine yk [] [5,6] ?_
  refine yt (7,.cloB 119 [.box 9 [vs v1.1],.box 9 [vs v1.2.1],.box 3 [vi v1.2.2]]) 0 ⟨gU _ _ 93 _ _ rfl call93 rfl rfl (pp s sep 0 _ hv1) rfl⟩ ?_
  refine ya 0 ?_
  refine bS [4] ?_
  refine aS ?_
  obtain rfl:=zi h
  exact aW hio rfl (.tmp _ _ .nil) rfl rfl
theorem gB (mx:Int×Nat×Value) (s:ByteArray) (r:(Int×Int)) (h:Sh.df s=some r):iO Tryz.prog (GL mx) 142 [.v (.string s)] (.tup [.v (.int .i32 r.1), .v (.int .i64 r.2)]):=by
  unfold Sh.df at h
  refine yG 117 func142 fun g0 hn hio => ?_
  refine bE hn 2 [0,117] ?_
  refine bE hn 3 [0,117,4] ?_
  refine af ?_
  refine bE hn 2 [0,117,4,16] ?_
  refine aP _ rfl (fun hb1 => ?_) (fun hb1 => ?_)
  ·have h:=aT hb1 h
   refine bE hn 2 [117,2,3] ?_
   refine aS ?_
   refine aD [1,2] (by kernel_rfl) (es':=[(_,_),(_,_)]) rfl ?_
   refine aO ?_
   obtain rfl:=zi h
   exact aW hio rfl (.tmp _ _ (.tmp _ _ .nil)) rfl rfl
  ·have h:=aV hb1 h
   refine ba ?_
   refine aB (af ?_)
   obtain ⟨v2, hv2, h⟩:=zn h
   refine yx hn 1 ?_
   refine ys 1 ⟨lh hv2⟩ ?_
   refine bS [0,117,4,5] ?_
   refine af ?_
   obtain ⟨v3, hv3, h⟩:=zn h
   obtain ⟨v4, hv4, h⟩:=zn h
   refine yx hn 1 ?_
   refine yS (.v (.pointer (some ⟨1,(0+v3 * 1),none⟩))) 0 ⟨nJ _ _ _ _ 256 1 0 _ 1 _ underlying184 kI rfl rfl (co hv3).1 (co hv3).2⟩ ?_
   refine yS (.v (.int .u8 v4)) 1 ⟨mU _ _ 117 1 _ _ _ underlying5 rfl rfl rfl (Ao mx) (ef hv4)⟩ ?_
   refine bS [0,117,4,5,6] ?_
   refine af ?_
   refine bE hn 2 [0,117,4,5,6,23] ?_
   refine aP _ rfl (fun hb5 => ?_) (fun hb5 => ?_)
   ·have h:=aT hb5 h
    refine af ?_
    obtain ⟨v6, hv6, h⟩:=zn h
    obtain ⟨v7, hv7, h⟩:=zn h
    obtain ⟨v8, hv8, h⟩:=zn h
    refine yx hn 1 ?_
    refine ys 0 ⟨lv hv6⟩ ?_
    refine ys 0 ⟨lB (qZ hv7)⟩ ?_
    refine ys 1 ⟨lB (mw hv8)⟩ ?_
    refine bS [0,117,7] ?_
    refine af ?_
    obtain ⟨v9, hv9, h⟩:=zn h
    obtain ⟨v10, hv10, h⟩:=zn h
    obtain ⟨v11, hv11, h⟩:=zn h
    obtain ⟨v12, hv12, h⟩:=zn h
    obtain ⟨v13, hv13, h⟩:=zn h
    refine yx hn 1 ?_
    refine ys 0 ⟨lh hv9⟩ ?_
    refine ys 1 ⟨lv hv10⟩ ?_
    refine ys 1 ⟨lb hv11⟩ ?_
    refine ys 0 ⟨lb hv12⟩ ?_
    refine ys 2 ⟨lb hv13⟩ ?_
    refine bS [117,2,3] ?_
    refine aS ?_
    refine aD [1,2] (by kernel_rfl) (es':=[(_,_),(_,_)]) rfl ?_
    refine aO ?_
    obtain rfl:=zi h
    exact aW hio rfl (.tmp _ _ (.tmp _ _ .nil)) rfl rfl
   ·have h:=aV hb5 h
    cases h
theorem ir (mx:Int×Nat×Value) (s:ByteArray) (r:(Int×Int)) (h:Sh.dL s=some r):iO Tryz.prog (GL mx) 120 [.v (.string s)] (.tup [.v (.int .i32 r.1), .v (.int .i64 r.2)]):=by
  unfold Sh.dL at h
  refine yG 19 func120 fun g0 hn hio => ?_
  refine bE hn 2 [0,19] ?_
  refine af ?_
  refine af ?_
  refine bk h (fun (s2:Bool)=>[(0,vs s),(19,.glob (GL mx)),(10,vb s2)]) ?_ ?_
  ·rintro s2 h
   refine aB ?_
   refine aP _ rfl (fun hb6 => ?_) (fun hb6 => ?_)
   ·have h:=aT hb6 h
    refine af ?_
    obtain ⟨v7, hv7, h⟩:=zn h
    obtain ⟨v8, hv8, h⟩:=zn h
    refine yx hn 1 ?_
    refine ys 0 ⟨lh hv7⟩ ?_
    refine ys 2 ⟨lv hv8⟩ ?_
    refine bS [19,2,3] ?_
    refine aS ?_
    refine aD [1,2] (by kernel_rfl) (es':=[(_,_),(_,_)]) rfl ?_
    refine aO ?_
    obtain rfl:=zi h
    exact aW hio rfl (.tmp _ _ (.tmp _ _ .nil)) rfl rfl
   ·have h:=aV hb6 h
    obtain ⟨v9, hv9, h⟩:=zn h
    refine yx hn 1 ?_
    refine ys 0 ⟨lg call142 (gB _ _ _ hv9) 19⟩ ?_
    refine ym 4 ?_
    refine bS [19,2,3] ?_
    refine aS ?_
    refine aD [1,2] (by kernel_rfl) (es':=[(_,_),(_,_)]) rfl ?_
    obtain rfl:=zi h
    exact aW hio rfl (.tmp _ _ (.tmp _ _ .nil)) rfl rfl
  ·intro u3 h hl4 hr5
   refine aR h (fun hg1_2 h => ?_) (fun hg1_2 h => ?_)
   ·obtain ⟨v1, hv1, h⟩:=zn h
    refine yx hn 3 ?_
    refine yd hg1_2 1 ?_
    refine ys 2 ⟨lh hv1⟩ ?_
    refine ye [0,19,10] ?_
    exact hl4 _ (zi h).symm
   ·refine yx hn 3 ?_
    refine yd hg1_2 4 ?_
    refine ye [0,19,10] ?_
    exact hl4 _ (zi h).symm
theorem mm (s sub:ByteArray) (r:Int) (h:Sh.fe s sub=some r):cU Tryz.prog 121 [.v (.string s), .v (.string sub)] (.v (.int .i64 r)):=lz Tryz.strings_Index_one s sub r h
theorem fR (mx:Int×Nat×Value) (l:Nat) {S:Type} (J:S→lJ) (Y:ByteArray→S→Option (S×Bool)) (hY:qO Tryz.prog l (fun x => .v (.string x)) Y J) (c0:ByteArray) (c1:ByteArray) (c2:Int) (st r:S) (h:Sh.eD Y c0 c1 c2 st=some r):Gs Tryz.prog (GL mx) 119 l [.box 9 [.v (.string c0)], .box 9 [.v (.string c1)], .box 3 [.v (.int .i64 c2)]] (J st) (J r):=by
  unfold Sh.eD at h
  refine yI 52 func119 fun g0 hn hio => ?_
  refine af ?_
  refine bE hn 3 [0,1,2,3,52,53,11] ?_
  refine aP _ rfl (fun hb1 => ?_) (fun hb1 => ?_)
  ·have h:=aT hb1 h
   refine af ?_
   refine jO [0,2,4,5] (by kernel_rfl) (es':=[(_,_),(_,_),(_,_),(_,_)]) rfl ?_
   refine bV h (fun ((s12,s13):ByteArray×S)=>[(0,.v (.func (.yield l) #[] #[])),(2,.box 9 [vs s12]),(52,.glob (GL mx)),(53,.inv (J s13))]) (fun (s16:S)=>[(52,.glob (GL mx)),(53,.inv (J s16))]) ?_ ?_
   ·rintro s16 h
    refine aB (aS ?_)
    refine aD [1] (by kernel_rfl) (es':=[(53,.inv (J s16))]) rfl ?_
    refine aO ?_
    obtain rfl:=zi h
    exact sM hio rfl rfl rfl
   ·rintro u17 hl18 hr19 ⟨s12, s13⟩ rr22 h ho20
    refine af ?_
    refine bE hn 3 [0,2,52,53,14] ?_
    refine aP _ rfl (fun hb23 => ?_) (fun hb23 => ?_)
    ·have h:=aT hb23 h
     refine ba ?_
     refine aB ?_
     refine bz ?_
     refine af ?_
     obtain ⟨v3, hv3, h⟩:=zn h
     refine yx hn 1 ?_
     refine ys 0 ⟨lg call120 (ir _ _ _ hv3) 52⟩ ?_
     refine ym 4 ?_
     refine bS [0,2,52,53,6] ?_
     refine af ?_
     refine af ?_
     obtain ⟨v4, hv4, h⟩:=zn h
     obtain ⟨v5, hv5, h⟩:=zn h
     refine yx hn 3 ?_
     refine yS (vs v4) 0 ⟨dS _ _ _ 0 v3.2 _ underlying9 rfl rfl ⟨_,rfl⟩ hv4⟩ ?_
     refine yk [53] [23,20] ?_
     refine np (53,.inv (J v5.1)) (24,vb v5.2) 1 ⟨qx _ _ 53 l v4 s13 v5 hY hv5 rfl rfl rfl⟩ ?_
     refine bS [0,2,52,53,6,25] ?_
     refine aP _ rfl (fun hb24 => ?_) (fun hb24 => ?_)
     ·have h:=aT hb24 h
      refine aS ?_
      refine aD [3] (by kernel_rfl) (es':=[(53,.inv (J v5.1))]) rfl ?_
      refine aO ?_
      refine bA ?_
      refine aO ?_
      refine bA ?_
      refine aO ?_
      refine aO ?_
      have h:=hr19 _ (ho20 _ (zi h).symm).symm
      obtain rfl:=zi h
      exact sM hio rfl rfl rfl
     ·have h:=aV hb24 h
      refine ba ?_
      refine aB ?_
      obtain ⟨v7, hv7, h⟩:=zn h
      refine yx hn 2 ?_
      refine yS (vs v7) 1 ⟨dS _ _ _ v3.2 (s12.size:Int) _ underlying9 rfl ⟨_,rfl⟩ rfl hv7⟩ ?_
      refine ye [0,2,52,53] ?_
      refine bF ?_
      exact ci _ (zi h).symm rfl
    ·have h:=aV hb23 h
     refine ck ?_
     refine bh ?_
     refine bh ?_
     refine cj ?_
     refine aD [2,3] (by kernel_rfl) (es':=[(_,_),(_,_)]) rfl ?_
     exact hl18 _ (ho20 _ (zi h).symm).symm
  ·have h:=aV hb1 h
   refine ba ?_
   refine aB (af ?_)
   refine jO [0,1,2,3,4,5] (by kernel_rfl) (es':=[(_,_),(_,_),(_,_),(_,_),(_,_),(_,_)]) rfl ?_
   refine bV h (fun ((s37,s38):ByteArray×S)=>[(0,.v (.func (.yield l) #[] #[])),(1,.box 9 [vs c0]),(2,.box 9 [vs s37]),(3,.box 3 [vi c2]),(52,.glob (GL mx)),(53,.inv (J s38))]) (fun ((s41,s42):ByteArray×S)=>[(0,.v (.func (.yield l) #[] #[])),(2,.box 9 [vs s41]),(52,.glob (GL mx)),(53,.inv (J s42))]) ?_ ?_
   ·rintro ⟨s41, s42⟩ h
    refine aB ?_
    obtain ⟨v51, hv51, h⟩:=zn h
    refine yx hn 2 ?_
    refine yk [53] [50,49] ?_
    refine np (53,.inv (J v51.1)) (51,vb v51.2) 0 ⟨qx _ _ 53 l s41 s42 v51 hY hv51 rfl rfl rfl⟩ ?_
    refine ye [52,53] ?_
    refine aD [1] (by kernel_rfl) (es':=[(53,.inv (J v51.1))]) rfl ?_
    obtain rfl:=zi h
    exact ED hio rfl rfl rfl
   ·rintro u43 hl44 hr45 ⟨s37, s38⟩ rr48 h ho46
    refine bz ?_
    refine af ?_
    obtain ⟨v25, hv25, h⟩:=zn h
    refine yx hn 2 ?_
    refine ys 1 ⟨lk call121 (mm _ _ _ hv25)⟩ ?_
    refine bS [0,1,2,3,52,53,7] ?_
    refine af ?_
    refine bE hn 2 [0,1,2,3,52,53,7,33] ?_
    refine aP _ rfl (fun hb49 => ?_) (fun hb49 => ?_)
    ·have h:=aT hb49 h
     refine ck ?_
     refine bh ?_
     refine wu (by decide) ?_
     refine bh ?_
     refine cj ?_
     refine aD [0,2,4,5] (by kernel_rfl) (es':=[(_,_),(_,_),(_,_),(_,_)]) rfl ?_
     exact hl44 _ (ho46 _ (zi h).symm).symm
    ·have h:=aV hb49 h
     refine ba ?_
     refine aB (af ?_)
     obtain ⟨v27, hv27, h⟩:=zn h
     obtain ⟨v28, hv28, h⟩:=zn h
     refine yx hn 3 ?_
     refine ys 0 ⟨lb hv27⟩ ?_
     refine yS (vs v28) 1 ⟨dS _ _ _ 0 v27 _ underlying9 rfl rfl ⟨_,rfl⟩ hv28⟩ ?_
     refine bS [0,1,2,3,52,53,7,8] ?_
     refine af ?_
     refine af ?_
     obtain ⟨v29, hv29, h⟩:=zn h
     refine yx hn 2 ?_
     refine yk [53] [40,39] ?_
     refine np (53,.inv (J v29.1)) (41,vb v29.2) 1 ⟨qx _ _ 53 l v28 s38 v29 hY hv29 rfl rfl rfl⟩ ?_
     refine bS [0,1,2,3,52,53,7,42] ?_
     refine aP _ rfl (fun hb50 => ?_) (fun hb50 => ?_)
     ·have h:=aT hb50 h
      refine aS ?_
      refine aD [5] (by kernel_rfl) (es':=[(53,.inv (J v29.1))]) rfl ?_
      refine aO ?_
      refine bA ?_
      refine aO ?_
      refine bA ?_
      refine aO ?_
      have h:=hr45 _ (ho46 _ (zi h).symm).symm
      obtain rfl:=zi h
      exact sM hio rfl rfl rfl
     ·have h:=aV hb50 h
      refine ba ?_
      refine aB ?_
      obtain ⟨v31, hv31, h⟩:=zn h
      obtain ⟨v32, hv32, h⟩:=zn h
      refine yx hn 4 ?_
      refine ys 0 ⟨lb hv31⟩ ?_
      refine yS (vs v32) 1 ⟨dS _ _ _ v31 (s37.size:Int) _ underlying9 rfl ⟨_,rfl⟩ rfl hv32⟩ ?_
      refine ye [0,1,2,3,52,53] ?_
      refine bF ?_
      exact ci _ (zi h).symm rfl
theorem eK (c:Int) (r:Bool) (h:Sh.gh c=some r):cU Tryz.prog 83 [.v (.int .u8 c)] (.v (.bool r)):=by
  unfold Sh.gh at h
  refine yO 25 func83 fun g0 hn hio => ?_
  refine bE hn 1 [0] ?_
  refine af ?_
  refine bk h (fun (s1:Bool)=>[(2,vb s1)]) ?_ ?_
  ·rintro s1 h
   refine aB (aS ?_)
   obtain rfl:=zi h
   exact aW hio rfl (.tmp _ _ .nil) rfl rfl
  ·intro u2 h hl3 hr4
   refine aR h (fun hg1_2 h => ?_) (fun hg1_2 h => ?_)
   ·refine aR h (fun hg1_6 h => ?_) (fun hg1_6 h => ?_)
    ·refine yx hn 3 ?_
     refine yd hg1_2 4 ?_
     refine yd hg1_6 16 ?_
     refine ye [2] ?_
     exact hl3 _ (zi h).symm
    ·refine aR h (fun hg1_9 h => ?_) (fun hg1_9 h => ?_)
     ·refine aR h (fun hg1_14 h => ?_) (fun hg1_14 h => ?_)
      ·refine yx hn 3 ?_
       refine yd hg1_2 4 ?_
       refine yd hg1_6 3 ?_
       refine yd hg1_9 5 ?_
       refine yd hg1_14 8 ?_
       refine ye [2] ?_
       exact hl3 _ (zi h).symm
      ·refine aR h (fun hg1_17 h => ?_) (fun hg1_17 h => ?_)
       ·refine yx hn 3 ?_
        refine yd hg1_2 4 ?_
        refine yd hg1_6 3 ?_
        refine yd hg1_9 5 ?_
        refine yd hg1_14 3 ?_
        refine yd hg1_17 5 ?_
        refine ye [2] ?_
        exact hl3 _ (zi h).symm
       ·refine yx hn 3 ?_
        refine yd hg1_2 4 ?_
        refine yd hg1_6 3 ?_
        refine yd hg1_9 5 ?_
        refine yd hg1_14 3 ?_
        refine yd hg1_17 5 ?_
        refine ye [2] ?_
        exact hl3 _ (zi h).symm
     ·refine aR h (fun hg1_17 h => ?_) (fun hg1_17 h => ?_)
      ·refine yx hn 3 ?_
       refine yd hg1_2 4 ?_
       refine yd hg1_6 3 ?_
       refine yd hg1_9 8 ?_
       refine yd hg1_17 5 ?_
       refine ye [2] ?_
       exact hl3 _ (zi h).symm
      ·refine yx hn 3 ?_
       refine yd hg1_2 4 ?_
       refine yd hg1_6 3 ?_
       refine yd hg1_9 8 ?_
       refine yd hg1_17 5 ?_
       refine ye [2] ?_
       exact hl3 _ (zi h).symm
   ·refine aR h (fun hg1_9 h => ?_) (fun hg1_9 h => ?_)
    ·refine aR h (fun hg1_14 h => ?_) (fun hg1_14 h => ?_)
     ·refine yx hn 3 ?_
      refine yd hg1_2 7 ?_
      refine yd hg1_9 5 ?_
      refine yd hg1_14 8 ?_
      refine ye [2] ?_
      exact hl3 _ (zi h).symm
     ·refine aR h (fun hg1_17 h => ?_) (fun hg1_17 h => ?_)
      ·refine yx hn 3 ?_
       refine yd hg1_2 7 ?_
       refine yd hg1_9 5 ?_
       refine yd hg1_14 3 ?_
       refine yd hg1_17 5 ?_
       refine ye [2] ?_
       exact hl3 _ (zi h).symm
      ·refine yx hn 3 ?_
       refine yd hg1_2 7 ?_
       refine yd hg1_9 5 ?_
       refine yd hg1_14 3 ?_
       refine yd hg1_17 5 ?_
       refine ye [2] ?_
       exact hl3 _ (zi h).symm
    ·refine aR h (fun hg1_17 h => ?_) (fun hg1_17 h => ?_)
     ·refine yx hn 3 ?_
      refine yd hg1_2 7 ?_
      refine yd hg1_9 8 ?_
      refine yd hg1_17 5 ?_
      refine ye [2] ?_
      exact hl3 _ (zi h).symm
     ·refine yx hn 3 ?_
      refine yd hg1_2 7 ?_
      refine yd hg1_9 8 ?_
      refine yd hg1_17 5 ?_
      refine ye [2] ?_
      exact hl3 _ (zi h).symm
theorem sl (c:Int) (r:Bool) (h:Sh.mN c=some r):cU Tryz.prog 82 [.v (.int .u8 c)] (.v (.bool r)):=by
  unfold Sh.mN at h
  refine yO 9 func82 fun g0 hn hio => ?_
  refine bE hn 1 [0] ?_
  refine af ?_
  refine bk h (fun (s2:Bool)=>[(2,vb s2)]) ?_ ?_
  ·rintro s2 h
   refine aB (aS ?_)
   obtain rfl:=zi h
   exact aW hio rfl (.tmp _ _ .nil) rfl rfl
  ·intro u3 h hl4 hr5
   obtain ⟨v1, hv1, h⟩:=zn h
   refine aR h (fun hg1_2 h => ?_) (fun hg1_2 h => ?_)
   ·refine yx hn 1 ?_
    refine ys 1 ⟨lk call83 (eK _ _ hv1)⟩ ?_
    refine yd hg1_2 4 ?_
    refine ye [2] ?_
    exact hl4 _ (zi h).symm
   ·refine yx hn 1 ?_
    refine ys 1 ⟨lk call83 (eK _ _ hv1)⟩ ?_
    refine yd hg1_2 4 ?_
    refine ye [2] ?_
    exact hl4 _ (zi h).symm
theorem kD (s:ByteArray) (r:Bool) (h:Sh.fa s=some r):cU Tryz.prog 81 [.v (.string s), .v (.func (.func 82) #[] #[])] (.v (.bool r)):=by
  unfold Sh.fa at h
  refine yO 18 func81 fun g0 hn hio => ?_
  refine bE hn 1 [0,1] ?_
  refine af ?_
  refine bE hn 3 [0,1,7,8] ?_
  refine bV h (fun (s9:Int)=>[(0,vs s),(1,.v (.func (.func 82) #[] #[])),(7,vi (s.size:Int)),(8,vi s9)]) (fun (():Unit)=>[]) ?_ ?_
  ·rintro ⟨⟩ h
   refine aB ?_
   refine bE hn 1 [4] ?_
   refine aS ?_
   obtain rfl:=zi h
   exact aW hio rfl (.tmp _ _ .nil) rfl rfl
  ·rintro u12 hl13 hr14 s9 rr17 h ho15
   refine bE hn 1 [0,1,7,8,9] ?_
   refine af ?_
   refine aP _ rfl (fun hb18 => ?_) (fun hb18 => ?_)
   ·have h:=aT hb18 h
    refine ba ?_
    refine aB (af ?_)
    refine bz ?_
    refine bE hn 2 [0,1,7,8,5] ?_
    refine af ?_
    obtain ⟨v2, hv2, h⟩:=zn h
    obtain ⟨v3, hv3, h⟩:=zn h
    refine yx hn 3 ?_
    refine ys 0 ⟨lh hv2⟩ ?_
    refine ys 1 ⟨lk call82 (sl _ _ hv3)⟩ ?_
    refine bS [0,1,7,8,16] ?_
    refine aP _ rfl (fun hb19 => ?_) (fun hb19 => ?_)
    ·have h:=aT hb19 h
     refine bE hn 1 [4] ?_
     refine aS ?_
     refine bA ?_
     refine aO ?_
     refine aO ?_
     refine bA ?_
     refine aO ?_
     have h:=hr14 _ (ho15 _ (zi h).symm).symm
     obtain rfl:=zi h
     exact aW hio rfl (.tmp _ _ .nil) rfl rfl
    ·have h:=aV hb19 h
     refine ba ?_
     refine bF ?_
     refine aB ?_
     obtain ⟨v5, hv5, h⟩:=zn h
     refine yx hn 0 ?_
     refine ys 0 ⟨lb hv5⟩ ?_
     refine yw [8] 1 ?_
     refine ye [0,1,7,8] ?_
     exact ci _ (zi h).symm rfl
   ·have h:=aV hb18 h
    refine ck ?_
    refine bh ?_
    refine bh ?_
    refine cj ?_
    refine aD [] (by kernel_rfl) (es':=[]) rfl ?_
    exact hl13 _ (ho15 _ (zi h).symm).symm
theorem uA (s:ByteArray) (r:Bool) (h:Sh.pH s=some r):cU Tryz.prog 70 [.v (.string s)] (.v (.bool r)):=by
  unfold Sh.pH at h
  refine yO 27 func70 fun g0 hn hio => ?_
  refine bE hn 1 [0] ?_
  refine af ?_
  refine bk h (fun (s5:Bool)=>[(2,vb s5)]) ?_ ?_
  ·rintro s5 h
   refine aB (aS ?_)
   obtain rfl:=zi h
   exact aW hio rfl (.tmp _ _ .nil) rfl rfl
  ·intro u6 h hl7 hr8
   refine aR h (fun hg1_2 h => ?_) (fun hg1_2 h => ?_)
   ·refine aR h (fun hg1_7 h => ?_) (fun hg1_7 h => ?_)
    ·obtain ⟨v1, hv1, h⟩:=zn h
     refine aR h (fun hg1_12 h => ?_) (fun hg1_12 h => ?_)
     ·obtain ⟨v2, hv2, h⟩:=zn h
      obtain ⟨v3, hv3, h⟩:=zn h
      refine aR h (fun hg1_20 h => ?_) (fun hg1_20 h => ?_)
      ·obtain ⟨v4, hv4, h⟩:=zn h
       refine yx hn 3 ?_
       refine yd hg1_2 5 ?_
       refine yd hg1_7 1 ?_
       refine ys 3 ⟨lh hv1⟩ ?_
       refine yd hg1_12 3 ?_
       refine ys 0 ⟨lb hv2⟩ ?_
       refine ys 3 ⟨lh hv3⟩ ?_
       refine yd hg1_20 1 ?_
       refine ys 2 ⟨lk call81 (kD _ _ hv4)⟩ ?_
       refine ye [2] ?_
       exact hl7 _ (zi h).symm
      ·refine yx hn 3 ?_
       refine yd hg1_2 5 ?_
       refine yd hg1_7 1 ?_
       refine ys 3 ⟨lh hv1⟩ ?_
       refine yd hg1_12 3 ?_
       refine ys 0 ⟨lb hv2⟩ ?_
       refine ys 3 ⟨lh hv3⟩ ?_
       refine yd hg1_20 4 ?_
       refine ye [2] ?_
       exact hl7 _ (zi h).symm
     ·refine yx hn 3 ?_
      refine yd hg1_2 5 ?_
      refine yd hg1_7 1 ?_
      refine ys 3 ⟨lh hv1⟩ ?_
      refine yd hg1_12 12 ?_
      refine ye [2] ?_
      exact hl7 _ (zi h).symm
    ·refine yx hn 3 ?_
     refine yd hg1_2 5 ?_
     refine yd hg1_7 17 ?_
     refine ye [2] ?_
     exact hl7 _ (zi h).symm
   ·refine yx hn 3 ?_
    refine yd hg1_2 22 ?_
    refine ye [2] ?_
    exact hl7 _ (zi h).symm
theorem ko (mx:Int×Nat×Value) (s:ByteArray) (r:Bool) (h:Sh.eF s=some r):iO Tryz.prog (GL mx) 69 [.v (.string s), .v (.func (.func 70) #[] #[])] (.v (.bool r)):=by
  unfold Sh.eF at h
  refine yG 13 func69 fun g0 hn hio => ?_
  refine gP hn 1 ?_
  refine yS (.box 4 [vb false]) 0 ⟨oA (bR _ _ Hb)⟩ ?_
  refine bS [0,13,3,4] ?_
  refine af ?_
  refine af ?_
  obtain ⟨v1, hv1, h⟩:=zn h
  refine yx hn 1 ?_
  refine yk [] [6] ?_
  refine yt (7,.cloB 119 [.box 9 [vs v1.1],.box 9 [vs v1.2.1],.box 3 [vi v1.2.2]]) 0 ⟨gU _ _ 80 _ _ rfl call80 rfl rfl (gL s (⟨#[46]⟩:ByteArray) _ hv1) rfl⟩ ?_
  refine bS [13,3,4,7] ?_
  refine bz ?_
  refine jO [3,0,1,2] (by kernel_rfl) (es':=[(7,.cloB 119 [.box 9 [vs v1.1],.box 9 [vs v1.2.1],.box 3 [vi v1.2.2]]),(13,.glob (GL mx)),(3,.box 65 [.v (.func (.func 70) #[] #[])]),(4,.box 4 [vb false])]) rfl ?_
  refine iE h 119 7 8 14 _ [13, 3, 4] call119 (fun (():Unit)=>[(13, .glob (GL mx)), (3, .box 65 [.v (.func (.func 70) #[] #[])]), (4, .box 4 [.v (.bool false)])]) (fun (():Unit)=>[(13, .glob (GL mx)), (3, .box 65 [.v (.func (.func 70) #[] #[])]), (4, .box 4 [.v (.bool false)])]) (fun l J Y hY t t' h=>fR mx l J Y hY v1.1 v1.2.1 v1.2.2 t t' h) hn rfl (fun _=>rfl) (fun _=>rfl) (fun _=>rfl) rfl rfl (fun _=>⟨rfl, rfl⟩) rfl (iB 13 rfl) ?_ ?_ ?_
  ·rintro kk g0 hn hio x ⟨⟩ u h
   refine rX (es':=[(8,vs x),(13,.glob (GL mx)),(3,.box 65 [.v (.func (.func 70) #[] #[])]),(4,.box 4 [vb false]),(13,.v (kk.tm.getD 13 undef)),(3,.v (kk.tm.getD 3 undef)),(4,.v (kk.tm.getD 4 undef)),(14,.inv kk.ready)]) rfl ?_
   refine yy hn 1 [13,3,4,14,5,13,3,4] ?_
   refine aD [0,1,2,4,5,6,7,3] (by kernel_rfl) (es':=[(13,.glob (GL mx)),(3,.box 65 [.v (.func (.func 70) #[] #[])]),(4,.box 4 [vb false]),(5,vs x),(13,.v (kk.tm.getD 13 undef)),(3,.v (kk.tm.getD 3 undef)),(4,.v (kk.tm.getD 4 undef)),(14,.inv kk.ready)]) rfl ?_
   refine jT (es:=[(13,.glob (GL mx)),(3,.box 65 [.v (.func (.func 70) #[] #[])]),(4,.box 4 [vb false]),(5,vs x),(13,.v (kk.tm.getD 13 undef)),(3,.v (kk.tm.getD 3 undef)),(4,.v (kk.tm.getD 4 undef))]) 14 rfl ?_
   refine bz ?_
   refine af ?_
   obtain ⟨v2, hv2, h⟩:=zn h
   refine yx hn 2 ?_
   refine ys 1 ⟨lk call70 (uA _ _ hv2)⟩ ?_
   refine bS [13,3,4,14,12,13,3,4] ?_
   refine aP _ rfl (fun hb5 => ?_) (fun hb5 => ?_)
   ·have h:=aT hb5 h
    refine bE hn 1 [13,3,4,14,13,3,4] ?_
    refine aS ?_
    refine bA ?_
    refine aD [0,1,2,4,5,6,3] (by kernel_rfl) (es':=[(_,_),(_,_),(_,_),(_,_),(_,_),(_,_),(_,_)]) rfl ?_
    obtain rfl:=zi h
    exact qi 14 [13, 3, 4] _ rfl rfl (by kernel_rfl)
   ·have h:=aV hb5 h
    refine ba ?_
    refine bF ?_
    refine aD [0,1,2,5,6,7,3] (by kernel_rfl) (es':=[(_,_),(_,_),(_,_),(_,_),(_,_),(_,_),(_,_)]) rfl ?_
    obtain rfl:=zi h
    exact jY 14 [13, 3, 4] _ rfl rfl (by kernel_rfl)
  ·rintro D ⟨⟩ h
   refine bF ?_
   refine aB ?_
   refine bE hn 1 [13,4] ?_
   refine aS ?_
   refine aD [1] (by kernel_rfl) (es':=[(_,_)]) rfl ?_
   obtain rfl:=zi h
   exact aW hio rfl (.cell1 _ _ _ _ underlying4 rfl .nil) rfl rfl
  ·rintro D ⟨⟩ h
   refine aD [2] (by kernel_rfl) (es':=[(_,_)]) rfl ?_
   refine bA ?_
   refine aO ?_
   obtain rfl:=zi h
   exact aW hio rfl (.cell1 _ _ _ _ underlying4 rfl .nil) rfl rfl
theorem cM (mx:Int×Nat×Value) (s:ByteArray) (r:Bool) (h:Sh.eA s=some r):iO Tryz.prog (GL mx) 55 [.v (.string s)] (.v (.bool r)):=by
  unfold Sh.eA at h
  refine yG 10 func55 fun g0 hn hio => ?_
  refine bE hn 1 [0,10] ?_
  refine af ?_
  refine bk h (fun (s2:Bool)=>[(10,.glob (GL mx)),(2,vb s2)]) ?_ ?_
  ·rintro s2 h
   refine aB (aS ?_)
   refine aD [1] (by kernel_rfl) (es':=[(_,_)]) rfl ?_
   obtain rfl:=zi h
   exact aW hio rfl (.tmp _ _ .nil) rfl rfl
  ·intro u3 h hl4 hr5
   refine aR h (fun hg1_3 h => ?_) (fun hg1_3 h => ?_)
   ·obtain ⟨v1, hv1, h⟩:=zn h
    refine yx hn 4 ?_
    refine yd hg1_3 1 ?_
    refine ys 2 ⟨lg call69 (ko _ _ _ hv1) 10⟩ ?_
    refine ye [10,2] ?_
    exact hl4 _ (zi h).symm
   ·refine yx hn 4 ?_
    refine yd hg1_3 4 ?_
    refine ye [10,2] ?_
    exact hl4 _ (zi h).symm
theorem eN (s:ByteArray) (r:ByteArray) (h:Sh.fQ s=some r):cU Tryz.prog 71 [.v (.string s)] (.v (.string r)):=by
  unfold Sh.fQ at h
  refine yO 29 func71 fun g0 hn hio => ?_
  refine bE hn 1 [0] ?_
  refine af ?_
  obtain ⟨v1, hv1, h⟩:=zn h
  refine yx hn 1 ?_
  refine ys 0 ⟨lU hv1⟩ ?_
  refine ya 0 ?_
  refine bS [3] ?_
  refine af ?_
  refine gP hn 1 ?_
  refine yS (vi (v1.length:Int)) 1 ⟨pn _ _ _ underlying28 rfl (List.length_map _)⟩ ?_
  refine bS [3,8,9,10] ?_
  refine bV h (fun ((s40,s41):(List Int)×Int)=>[(3,.mkr 5 (map (int .u8) s40)),(8,.same (.slot 3)),(9,vi (v1.length:Int)),(10,vi s41)]) (fun (s57:(List Int))=>[(3,.mkr 5 (map (int .u8) s57))]) ?_ ?_
  ·rintro s57 h
   refine aB (af ?_)
   obtain ⟨v79, hv79, h⟩:=zn h
   refine yx hn 0 ?_
   refine ym 0 ?_
   refine ys 1 ⟨lM hv79⟩ ?_
   refine bS [2] ?_
   refine aS ?_
   obtain rfl:=zi h
   exact aW hio rfl (.tmp _ _ .nil) rfl rfl
  ·rintro u58 hl59 hr60 ⟨s40, s41⟩ rr63 h ho61
   refine bE hn 1 [3,8,9,10,11] ?_
   refine af ?_
   refine aP _ rfl (fun hb64 => ?_) (fun hb64 => ?_)
   ·have h:=aT hb64 h
    refine ba ?_
    refine aB (af ?_)
    refine bk h (fun (s70:(List Int))=>[(3,.mkr 5 (map (int .u8) s70)),(8,.same (.slot 3)),(9,vi (v1.length:Int)),(10,vi s41)]) ?_ ?_
    ·rintro s70 h
     refine aB ?_
     obtain ⟨v22, hv22, h⟩:=zn h
     refine yx hn 0 ?_
     refine ys 0 ⟨lb hv22⟩ ?_
     refine yw [10] 1 ?_
     refine ye [3,8,9,10] ?_
     exact ci _ (zi h).symm rfl
    ·intro u71 h hl72 hr73
     refine bz ?_
     refine af ?_
     obtain ⟨v3, hv3, h⟩:=zn h
     obtain ⟨v4, hv4, h⟩:=zn h
     refine yx hn 1 ?_
     refine yS (.eref (.slot 3) (v3 * 1)) 0 ⟨wO _ _ _ _ _ _ _ underlying28 kI rfl rfl rfl (co hv3).1 (BZ (co hv3).2) rfl⟩ ?_
     refine yS (.v (.int .u8 v4)) 2 ⟨yD _ _ _ _ _ _ underlying5 rfl rfl rfl (Aa hv4)⟩ ?_
     refine bS [3,8,9,10,4,5] ?_
     refine af ?_
     refine bk h (fun (s74:Bool)=>[(3,.mkr 5 (map (int .u8) s40)),(8,.same (.slot 3)),(9,vi (v1.length:Int)),(10,vi s41),(4,vi s41),(5,.v (.int .u8 v4)),(20,vb s74)]) ?_ ?_
     ·rintro s74 h
      refine aB ?_
      refine aP _ rfl (fun hb78 => ?_) (fun hb78 => ?_)
      ·have h:=aT hb78 h
       obtain ⟨v10, hv10, h⟩:=zn h
       obtain ⟨v11, hv11, h⟩:=zn h
       obtain ⟨v12, hv12, h⟩:=zn h
       refine yx hn 3 ?_
       refine ys 0 ⟨lb hv10⟩ ?_
       refine yS (.eref (.slot 3) (v11 * 1)) 0 ⟨wO _ _ _ _ _ _ _ underlying28 kI rfl rfl rfl (co hv11).1 (BZ (co hv11).2) rfl⟩ ?_
       refine yk [3] [25,24] ?_
       refine yt (3,.mkr 5 (map (int .u8) v12)) 0 ⟨wq _ _ _ _ _ _ _ kI rfl rfl rfl (GU (co hv11).2) (FJ (f:=int .u8) (Option.some.inj hv12))⟩ ?_
       refine ye [3,8,9,10] ?_
       refine bF ?_
       exact hl72 _ (zi h).symm
      ·have h:=aV hb78 h
       refine ba ?_
       refine bF ?_
       refine aD [0,1,2,3] (by kernel_rfl) (es':=[(_,_),(_,_),(_,_),(_,_)]) rfl ?_
       exact hl72 _ (zi h).symm
     ·intro u75 h hl76 hr77
      refine aR h (fun hg5_2 h => ?_) (fun hg5_2 h => ?_)
      ·refine yx hn 3 ?_
       refine yd hg5_2 3 ?_
       refine ye [3,8,9,10,4,5,20] ?_
       exact hl76 _ (zi h).symm
      ·refine yx hn 3 ?_
       refine yd hg5_2 3 ?_
       refine ye [3,8,9,10,4,5,20] ?_
       exact hl76 _ (zi h).symm
   ·have h:=aV hb64 h
    refine ck ?_
    refine bh ?_
    refine bh ?_
    refine cj ?_
    refine aD [0] (by kernel_rfl) (es':=[(_,_)]) rfl ?_
    exact hl59 _ (ho61 _ (zi h).symm).symm
theorem lx (a:ByteArray) (b:ByteArray) (r:Bool) (h:Sh.jh a b=some r):cU Tryz.prog 56 [.v (.string a), .v (.string b)] (.v (.bool r)):=by
  unfold Sh.jh at h
  refine yO 10 func56 fun g0 hn hio => ?_
  refine bE hn 1 [0,1] ?_
  refine af ?_
  obtain ⟨v1, hv1, h⟩:=zn h
  obtain ⟨v2, hv2, h⟩:=zn h
  refine yx hn 1 ?_
  refine ys 1 ⟨lk call71 (eN _ _ hv1)⟩ ?_
  refine ys 2 ⟨lk call71 (eN _ _ hv2)⟩ ?_
  refine bS [4] ?_
  refine aS ?_
  obtain rfl:=zi h
  exact aW hio rfl (.tmp _ _ .nil) rfl rfl
theorem nU (s:ByteArray) (least:Int) (r:Bool) (h:Sh.lC s least=some r):cU Tryz.prog 58 [.v (.string s), .v (.int .u8 least)] (.v (.bool r)):=by
  unfold Sh.lC at h
  refine yO 23 func58 fun g0 hn hio => ?_
  refine bE hn 1 [0,1] ?_
  refine af ?_
  refine bE hn 3 [0,1,7,8] ?_
  refine bV h (fun (s17:Int)=>[(0,vs s),(1,.v (.int .u8 least)),(7,vi (s.size:Int)),(8,vi s17)]) (fun (():Unit)=>[]) ?_ ?_
  ·rintro ⟨⟩ h
   refine aB ?_
   refine bE hn 1 [4] ?_
   refine aS ?_
   obtain rfl:=zi h
   exact aW hio rfl (.tmp _ _ .nil) rfl rfl
  ·rintro u24 hl25 hr26 s17 rr29 h ho27
   refine bE hn 1 [0,1,7,8,9] ?_
   refine af ?_
   refine aP _ rfl (fun hb30 => ?_) (fun hb30 => ?_)
   ·have h:=aT hb30 h
    refine ba ?_
    refine aB (af ?_)
    refine bz ?_
    refine bE hn 2 [0,1,7,8,5] ?_
    refine af ?_
    refine bk h (fun (s31:Bool)=>[(0,vs s),(1,.v (.int .u8 least)),(7,vi (s.size:Int)),(8,vi s17),(21,vb s31)]) ?_ ?_
    ·rintro s31 h
     refine aB ?_
     refine aP _ rfl (fun hb35 => ?_) (fun hb35 => ?_)
     ·have h:=aT hb35 h
      refine bE hn 1 [4] ?_
      refine aS ?_
      refine bA ?_
      refine aO ?_
      refine aO ?_
      refine bA ?_
      refine aO ?_
      have h:=hr26 _ (ho27 _ (zi h).symm).symm
      obtain rfl:=zi h
      exact aW hio rfl (.tmp _ _ .nil) rfl rfl
     ·have h:=aV hb35 h
      refine ba ?_
      refine bF ?_
      refine aB ?_
      obtain ⟨v9, hv9, h⟩:=zn h
      refine yx hn 0 ?_
      refine ys 0 ⟨lb hv9⟩ ?_
      refine yw [8] 1 ?_
      refine ye [0,1,7,8] ?_
      exact ci _ (zi h).symm rfl
    ·intro u32 h hl33 hr34
     obtain ⟨v2, hv2, h⟩:=zn h
     refine aR h (fun hg4_5 h => ?_) (fun hg4_5 h => ?_)
     ·refine yx hn 2 ?_
      refine ys 3 ⟨lh hv2⟩ ?_
      refine yd hg4_5 5 ?_
      refine ye [0,1,7,8,21] ?_
      exact hl33 _ (zi h).symm
     ·obtain ⟨v3, hv3, h⟩:=zn h
      refine yx hn 2 ?_
      refine ys 3 ⟨lh hv2⟩ ?_
      refine yd hg4_5 2 ?_
      refine ys 2 ⟨lh hv3⟩ ?_
      refine ye [0,1,7,8,21] ?_
      exact hl33 _ (zi h).symm
   ·have h:=aV hb30 h
    refine ck ?_
    refine bh ?_
    refine bh ?_
    refine cj ?_
    refine aD [] (by kernel_rfl) (es':=[]) rfl ?_
    exact hl25 _ (ho27 _ (zi h).symm).symm
theorem mB (s:ByteArray) (r:Bool) (h:Sh.pj s=some r):cU Tryz.prog 57 [.v (.string s)] (.v (.bool r)):=by
  unfold Sh.pj at h
  refine yO 15 func57 fun g0 hn hio => ?_
  refine bE hn 1 [0] ?_
  refine af ?_
  refine bk h (fun (s2:Bool)=>[(2,vb s2)]) ?_ ?_
  ·rintro s2 h
   refine aB (aS ?_)
   obtain rfl:=zi h
   exact aW hio rfl (.tmp _ _ .nil) rfl rfl
  ·intro u3 h hl4 hr5
   refine aR h (fun hg1_3 h => ?_) (fun hg1_3 h => ?_)
   ·refine aR h (fun hg1_8 h => ?_) (fun hg1_8 h => ?_)
    ·obtain ⟨v1, hv1, h⟩:=zn h
     refine yx hn 4 ?_
     refine yd hg1_3 5 ?_
     refine yd hg1_8 1 ?_
     refine ys 2 ⟨lk call58 (nU _ _ _ hv1)⟩ ?_
     refine ye [2] ?_
     exact hl4 _ (zi h).symm
    ·refine yx hn 4 ?_
     refine yd hg1_3 5 ?_
     refine yd hg1_8 4 ?_
     refine ye [2] ?_
     exact hl4 _ (zi h).symm
   ·refine yx hn 4 ?_
    refine yd hg1_3 9 ?_
    refine ye [2] ?_
    exact hl4 _ (zi h).symm
end Go.Proofs.YtjnnkhmhjcjhdaaGreatDoor
