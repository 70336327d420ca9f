import Derived.Test.YtjnnkhmhjcjhdaaGreatDoorShelf
import Derived.Test.YtjnnkhmhjcjhdaaGreatDoorIdx
import Derived.Test.YtjnnkhmhjcjhdaaGreatDoorSh
set_option linter.unusedVariables false
set_option linter.unusedSimpArgs false
set_option maxHeartbeats 1000000
namespace Go.Proofs.YtjnnkhmhjcjhdaaGreatDoor
open Go.Abs Go.Abs.Sh Tryz
open List (map flatten)
open Value (int)
def GL (mx:Int×Nat×Value):List (Nat×List Value):=[(0,[.int .i64 mx.1]),(1,(List.map (Value.int .u8) gX)),(2,(List.map (Value.int .u8) jG)),(3,[.iface mx.2.1 mx.2.2]),(5,(List.map (Value.int .u32) dR)),(6,(List.map (Value.int .i64) iK)),(7,(List.map (Value.int .u64) gI))]
theorem vA (mx:Int×Nat×Value):(0,([.int .i64 mx.1]:List Value))∈GL mx := .head _
theorem Be (mx:Int×Nat×Value):(1,((List.map (Value.int .u8) gX):List Value))∈GL mx := .tail _ (.head _)
theorem Er (mx:Int×Nat×Value):(2,((List.map (Value.int .u8) jG):List Value))∈GL mx := .tail _ (.tail _ (.head _))
theorem FL (mx:Int×Nat×Value):(3,([.iface mx.2.1 mx.2.2]:List Value))∈GL mx := .tail _ (.tail _ (.tail _ (.head _)))
theorem EW (mx:Int×Nat×Value):(5,((List.map (Value.int .u32) dR):List Value))∈GL mx := .tail _ (.tail _ (.tail _ (.tail _ (.head _))))
theorem Et (mx:Int×Nat×Value):(6,((List.map (Value.int .i64) iK):List Value))∈GL mx := .tail _ (.tail _ (.tail _ (.tail _ (.tail _ (.head _)))))
theorem Ey (mx:Int×Nat×Value):(7,((List.map (Value.int .u64) gI):List Value))∈GL mx := .tail _ (.tail _ (.tail _ (.tail _ (.tail _ (.tail _ (.head _))))))
instance iUD27:UD Tryz.prog 27 (.slice 26):=⟨Tryz.underlying27⟩
instance iLT_Path:LenE T_Path.enc 3:=⟨T_Path.len⟩
instance iUD28:UD Tryz.prog 28 (.slice 5):=⟨Tryz.underlying28⟩
theorem pD:(Tryz.prog.info? 26).map (·.size)=some 3:=by kernel_rfl
theorem Lr:(Tryz.prog.info? 4).map (·.size)=some 1:=by kernel_rfl
instance iFO26_0:FO Tryz.prog 26 0 0:=⟨by kernel_rfl⟩
instance iAG4:AS Tryz.prog 4:=⟨by kernel_rfl⟩
theorem sP:(Tryz.prog.info? 9).map (·.size)=some 1:=by kernel_rfl
instance iFO26_1:FO Tryz.prog 26 1 1:=⟨by kernel_rfl⟩
instance iAG9:AS Tryz.prog 9:=⟨by kernel_rfl⟩
instance iFO26_2:FO Tryz.prog 26 2 2:=⟨by kernel_rfl⟩
instance iUD9:UD Tryz.prog 9 .string:=⟨Tryz.underlying9⟩
instance iAG26:AA Tryz.prog 26 3:=⟨by kernel_rfl⟩
theorem lJ:(Tryz.prog.info? 5).map (·.size)=some 1:=by kernel_rfl
instance iSZ5:SZ Tryz.prog 5 1:=⟨by kernel_rfl⟩
instance iAG5:AS Tryz.prog 5:=⟨by kernel_rfl⟩
instance iUD3:UD Tryz.prog 3 (.int .i64):=⟨Tryz.underlying3⟩
instance iUD39:UD Tryz.prog 39 (.int .u64):=⟨Tryz.underlying39⟩
theorem IW:(Tryz.prog.info? 24).bind (·.zero)=some (.agg #[.string ByteArray.empty,.string ByteArray.empty,.int .i64 0,.string ByteArray.empty,.string ByteArray.empty,.int .i64 0,.bool false]):=by kernel_rfl
theorem KA:(Tryz.prog.info? 22).bind (·.zero)=some (.agg #[.string ByteArray.empty,.string ByteArray.empty]):=by kernel_rfl
theorem Km:∀ fs,Tryz.prog.underlying 24=some (.struct fs)→fs.toList.map (fun f=>(Tryz.prog.info? f.type).map (·.size))=([2,1,1,1,1,1]:List Nat).map some:=by
 intro fs h
 rw [Tryz.underlying24] at h
 cases h
 kernel_rfl
theorem Ji:(Tryz.prog.info? 24).map (·.size)=some 7:=by kernel_rfl
instance iAG24:AA Tryz.prog 24 7:=⟨by kernel_rfl⟩
theorem Hv:(Tryz.prog.info? 22).map (·.size)=some 2:=by kernel_rfl
theorem BY:∀ fs,Tryz.prog.underlying 26=some (.struct fs)→fs.toList.map (fun f=>(Tryz.prog.info? f.type).map (·.size))=([1,1,1]:List Nat).map some:=by
 intro fs h
 rw [Tryz.underlying26] at h
 cases h
 kernel_rfl
theorem qk:(Tryz.prog.info? 26).bind (·.zero)=some (.agg #[.bool false,.string ByteArray.empty,.string ByteArray.empty]):=by kernel_rfl
instance iSZ26:SZ Tryz.prog 26 3:=⟨by kernel_rfl⟩
theorem EH:fH Tryz.prog 27 26 3 40:=⟨⟨Tryz.t26,.agg #[.bool false,.string ByteArray.empty,.string ByteArray.empty],Tryz.underlying27,by kernel_rfl,by kernel_rfl,by kernel_rfl,by kernel_rfl,by decide,by kernel_rfl⟩⟩
theorem rM:(Tryz.prog.info? 5).bind (·.zero)=some (.int .u8 0):=by kernel_rfl
theorem fZ:fH Tryz.prog 28 5 1 1:=⟨⟨Tryz.t5,.int .u8 0,Tryz.underlying28,by kernel_rfl,by kernel_rfl,by kernel_rfl,by kernel_rfl,by decide,by kernel_rfl⟩⟩
instance iUD5:UD Tryz.prog 5 (.int .u8):=⟨Tryz.underlying5⟩
theorem xf:(Tryz.prog.info? 30).bind (·.zero)=some (.agg #[.int .i64 0,.string ByteArray.empty,.bool false,.string ByteArray.empty,.string ByteArray.empty,.slice none 0 0,.bool false,.slice none 0 0,.string ByteArray.empty,.bool false]):=by kernel_rfl
theorem HV:∀ fs,Tryz.prog.underlying 30=some (.struct fs)→fs.toList.map (fun f=>(Tryz.prog.info? f.type).map (·.size))=([1,1,3,1,1,1,1,1]:List Nat).map some:=by
 intro fs h
 rw [Tryz.underlying30] at h
 cases h
 kernel_rfl
theorem sS:(Tryz.prog.info? 30).map (·.size)=some 10:=by kernel_rfl
instance iAG30:AA Tryz.prog 30 10:=⟨by kernel_rfl⟩
theorem JB:(Tryz.prog.info? 4).bind (·.zero)=some (.bool false):=by kernel_rfl
instance iUD21:UD Tryz.prog 21 (.int .i32):=⟨Tryz.underlying21⟩
instance iAG3:AS Tryz.prog 3:=⟨by kernel_rfl⟩
instance iAG65:AS Tryz.prog 65:=⟨by kernel_rfl⟩
instance iFO24_0:FO Tryz.prog 24 0 0:=⟨by kernel_rfl⟩
theorem Hq:(Tryz.prog.info? 3).map (·.size)=some 1:=by kernel_rfl
instance iFO24_1:FO Tryz.prog 24 1 2:=⟨by kernel_rfl⟩
instance iFO24_2:FO Tryz.prog 24 2 3:=⟨by kernel_rfl⟩
instance iFO24_3:FO Tryz.prog 24 3 4:=⟨by kernel_rfl⟩
instance iFO24_4:FO Tryz.prog 24 4 5:=⟨by kernel_rfl⟩
instance iFO30_0:FO Tryz.prog 30 0 0:=⟨by kernel_rfl⟩
instance iFO30_6:FO Tryz.prog 30 6 8:=⟨by kernel_rfl⟩
theorem IU:(Tryz.prog.info? 27).map (·.size)=some 1:=by kernel_rfl
instance iFO30_3:FO Tryz.prog 30 3 5:=⟨by kernel_rfl⟩
instance iAG27:AS Tryz.prog 27:=⟨by kernel_rfl⟩
theorem lu:(Tryz.prog.info? 28).map (·.size)=some 1:=by kernel_rfl
instance iFO30_5:FO Tryz.prog 30 5 7:=⟨by kernel_rfl⟩
instance iAG28:AS Tryz.prog 28:=⟨by kernel_rfl⟩
theorem JV:∀ fs,Tryz.prog.underlying 80=some (.struct fs)→fs.toList.map (fun f=>(Tryz.prog.info? f.type).map (·.size))=([10,7,1,1,1]:List Nat).map some:=by
 intro fs h
 rw [Tryz.underlying80] at h
 cases h
 kernel_rfl
theorem Ke:(Tryz.prog.info? 80).bind (·.zero)=some (.agg #[.int .i64 0,.string ByteArray.empty,.bool false,.string ByteArray.empty,.string ByteArray.empty,.slice none 0 0,.bool false,.slice none 0 0,.string ByteArray.empty,.bool false,.string ByteArray.empty,.string ByteArray.empty,.int .i64 0,.string ByteArray.empty,.string ByteArray.empty,.int .i64 0,.bool false,.int .i64 0,.int .i64 0,.slice none 0 0]):=by kernel_rfl
instance iFO80_0:FO Tryz.prog 80 0 0:=⟨by kernel_rfl⟩
abbrev aa.b (x:aa):List AV:=[.v (.int .i64 x.LF.LW),.v (.string x.LF.LI),.v (.bool x.LF.LD.LQ),.v (.string x.LF.LD.LM),.v (.string x.LF.LD.LA),.fl (.own 26) 3 (List.flatten (List.map T_Path.enc x.LF.To)),.v (.bool x.LF.LY),.mkr 5 (List.map (Value.int .u8) x.LF.Lx),.v (.string x.LF.Ly),.v (.bool x.LF.LX),.v (.string ((x.config.LB.getD 0 (⟨#[]⟩:Mf)))),.v (.string ((x.config.LB.getD 1 (⟨#[]⟩:Mf)))),.v (.int .i64 x.config.LC),.v (.string x.config.Mc),.v (.string x.config.Ma),.v (.int .i64 x.config.LN),.v (.bool x.config.LH),.v (.int .i64 x.site),.v (.int .i64 x.at_),.fr (.own 55) false 12 (List.flatten (List.map ay.ienc x.out))]
theorem FI:(Tryz.prog.info? 28).bind (·.zero)=some (.slice none 0 0):=by kernel_rfl
theorem KF:(Tryz.prog.info? 3).bind (·.zero)=some (.int .i64 0):=by kernel_rfl
theorem Ki:(Tryz.prog.info? 35).bind (·.zero)=some (.int .i64 0):=by kernel_rfl
instance iAG35:AS Tryz.prog 35:=⟨by kernel_rfl⟩
theorem EO:(Tryz.prog.info? 51).bind (·.zero)=some (.agg #[.int .i64 0,.slice none 0 0]):=by kernel_rfl
theorem Gq:(Tryz.prog.info? 153).bind (·.zero)=some (.agg #[.pointer none,.slice none 0 0]):=by kernel_rfl
instance iUD106:UD Tryz.prog 106 (.int .u32):=⟨Tryz.underlying106⟩
theorem JD:(Tryz.prog.info? 9).bind (·.zero)=some (.string ByteArray.empty):=by kernel_rfl
theorem IZ:∀ fs,Tryz.prog.underlying 51=some (.struct fs)→fs.toList.map (fun f=>(Tryz.prog.info? f.type).map (·.size))=([1,1]:List Nat).map some:=by
 intro fs h
 rw [Tryz.underlying51] at h
 cases h
 kernel_rfl
theorem FB:(Tryz.prog.info? 51).map (·.size)=some 2:=by kernel_rfl
theorem Cw:∀ fs,Tryz.prog.underlying 55=some (.struct fs)→fs.toList.map (fun f=>(Tryz.prog.info? f.type).map (·.size))=([2,1,8,1]:List Nat).map some:=by
 intro fs h
 rw [Tryz.underlying55] at h
 cases h
 kernel_rfl
theorem tY:(Tryz.prog.info? 55).bind (·.zero)=some (.agg #[.int .i64 0,.slice none 0 0,.bool false,.bool false,.string ByteArray.empty,.string ByteArray.empty,.slice none 0 0,.slice none 0 0,.bool false,.string ByteArray.empty,.int .i64 0,.bool false]):=by kernel_rfl
theorem vZ:(Tryz.prog.info? 55).map (·.size)=some 12:=by kernel_rfl
theorem Hl:∀ fs,Tryz.prog.underlying 53=some (.struct fs)→fs.toList.map (fun f=>(Tryz.prog.info? f.type).map (·.size))=([3,1,1,1,1,1]:List Nat).map some:=by
 intro fs h
 rw [Tryz.underlying53] at h
 cases h
 kernel_rfl
theorem rU:(Tryz.prog.info? 53).bind (·.zero)=some (.agg #[.bool false,.string ByteArray.empty,.string ByteArray.empty,.slice none 0 0,.slice none 0 0,.bool false,.string ByteArray.empty,.int .i64 0]):=by kernel_rfl
theorem qW:(Tryz.prog.info? 53).map (·.size)=some 8:=by kernel_rfl
instance iFO30_2:FO Tryz.prog 30 2 2:=⟨by kernel_rfl⟩
theorem Jr:∀ fs,Tryz.prog.underlying 62=some (.struct fs)→fs.toList.map (fun f=>(Tryz.prog.info? f.type).map (·.size))=([1,1,1]:List Nat).map some:=by
 intro fs h
 rw [Tryz.underlying62] at h
 cases h
 kernel_rfl
theorem Jo:(Tryz.prog.info? 62).bind (·.zero)=some (.agg #[.int .i64 0,.int .i64 0,.slice none 0 0]):=by kernel_rfl
instance iFO62_0:FO Tryz.prog 62 0 0:=⟨by kernel_rfl⟩
instance iFO62_1:FO Tryz.prog 62 1 1:=⟨by kernel_rfl⟩
instance iFO62_2:FO Tryz.prog 62 2 2:=⟨by kernel_rfl⟩
instance iAG60:AS Tryz.prog 60:=⟨by kernel_rfl⟩
instance iUD60:UD Tryz.prog 60 (.slice 53):=⟨Tryz.underlying60⟩
instance iLiT_Mail:LenI az.ienc 8:=⟨az.ilen⟩
instance iSZ53:SZ Tryz.prog 53 8:=⟨by kernel_rfl⟩
instance iAG53:AA Tryz.prog 53 8:=⟨by kernel_rfl⟩
instance iFO53_0:FO Tryz.prog 53 0 0:=⟨by kernel_rfl⟩
instance iFO53_1:FO Tryz.prog 53 1 3:=⟨by kernel_rfl⟩
instance iFO53_2:FO Tryz.prog 53 2 4:=⟨by kernel_rfl⟩
instance iFO53_3:FO Tryz.prog 53 3 5:=⟨by kernel_rfl⟩
instance iFO53_4:FO Tryz.prog 53 4 6:=⟨by kernel_rfl⟩
instance iFO53_5:FO Tryz.prog 53 5 7:=⟨by kernel_rfl⟩
instance iAG62:AA Tryz.prog 62 3:=⟨by kernel_rfl⟩
theorem Aj:((Tryz.prog.info? 222).bind (·.zero)).map (·.cells.toList)=some (List.map (Value.int .u32) (List.replicate 16 (0:Int))):=by kernel_rfl
theorem ij:(Tryz.prog.info? 106).map (·.size)=some 1:=by kernel_rfl
theorem Ay:(Tryz.prog.info? 222).map (·.size)=some 16:=by kernel_rfl
instance iUD31:UD Tryz.prog 31 (.slice 3):=⟨Tryz.underlying31⟩
instance iSZ3:SZ Tryz.prog 3 1:=⟨by kernel_rfl⟩
instance iFO30_4:FO Tryz.prog 30 4 6:=⟨by kernel_rfl⟩
instance iFO30_1:FO Tryz.prog 30 1 1:=⟨by kernel_rfl⟩
instance iFO80_3:FO Tryz.prog 80 3 18:=⟨by kernel_rfl⟩
instance iAG55:AA Tryz.prog 55 12:=⟨by kernel_rfl⟩
theorem Iw:(Tryz.prog.info? 137).bind (·.zero)=some (.slice none 0 0):=by kernel_rfl
theorem Je:fH Tryz.prog 137 28 1 24:=⟨⟨Tryz.t28,.slice none 0 0,Tryz.underlying137,by kernel_rfl,by kernel_rfl,by kernel_rfl,by kernel_rfl,by decide,by kernel_rfl⟩⟩
theorem Jf:(Tryz.prog.info? 137).map (·.size)=some 1:=by kernel_rfl
instance iAG137:AS Tryz.prog 137:=⟨by kernel_rfl⟩
instance iUD137:UD Tryz.prog 137 (.slice 28):=⟨Tryz.underlying137⟩
instance iLiRow_int_u8:LenI Row_int_u8.ienc 1:=⟨Row_int_u8.ilen⟩
instance iSZ28:SZ Tryz.prog 28 1:=⟨by kernel_rfl⟩
theorem Ic:(Tryz.prog.info? 34).map (·.size)=some 1:=by kernel_rfl
theorem He:fH Tryz.prog 34 55 12 168:=⟨⟨Tryz.t55,.agg #[.int .i64 0,.slice none 0 0,.bool false,.bool false,.string ByteArray.empty,.string ByteArray.empty,.slice none 0 0,.slice none 0 0,.bool false,.string ByteArray.empty,.int .i64 0,.bool false],Tryz.underlying34,by kernel_rfl,by kernel_rfl,by kernel_rfl,by kernel_rfl,by decide,by kernel_rfl⟩⟩
instance iFO80_4:FO Tryz.prog 80 4 19:=⟨by kernel_rfl⟩
instance iAG34:AS Tryz.prog 34:=⟨by kernel_rfl⟩
theorem EX:Gw Tryz.prog 74 0:=fun p1 p2 n c1 k c2 xs ys m w hx hy hr1 hr2 h1 h2 hp1 hcap hs hk hm=>Tryz.bytes_Cut_all p1 p2 n c1 k c2 xs ys m w hx hy hr1 hr2 h1 h2 hp1 hcap hs hk hm
theorem Bt:((Tryz.prog.info? 91).bind (·.zero)).map (·.cells.toList)=some (List.map (Value.int .u8) (List.replicate 16 (0:Int))):=by kernel_rfl
theorem Iu:((Tryz.prog.info? 205).bind (·.zero)).map (·.cells.toList)=some (List.map (Value.int .u8) (List.replicate 64 (0:Int))):=by kernel_rfl
theorem Gv:(Tryz.prog.info? 225).bind (·.zero)=some (.agg #[.int .u32 0,.int .u32 0,.int .u32 0,.int .u32 0]):=by kernel_rfl
theorem GC:((Tryz.prog.info? 225).bind (·.zero)).map (·.cells.toList)=some (List.map (Value.int .u32) (List.replicate 4 (0:Int))):=by kernel_rfl
theorem uj:(Tryz.prog.info? 225).map (·.size)=some 4:=by kernel_rfl
theorem Jw:(Tryz.prog.info? 241).map (·.size)=some 64:=by kernel_rfl
theorem Iy:(Tryz.prog.info? 244).map (·.size)=some 4:=by kernel_rfl
instance iUD105:UD Tryz.prog 105 (.int .u64):=⟨Tryz.underlying105⟩
theorem xC:(Tryz.prog.info? 91).map (·.size)=some 16:=by kernel_rfl
theorem Jz:(Tryz.prog.info? 205).map (·.size)=some 64:=by kernel_rfl
instance iFO80_1:FO Tryz.prog 80 1 10:=⟨by kernel_rfl⟩
instance iFO30_7:FO Tryz.prog 30 7 9:=⟨by kernel_rfl⟩
theorem mj:(Tryz.prog.info? 122).bind (·.zero)=some (.agg #[.int .i64 0,.string ByteArray.empty,.bool false,.string ByteArray.empty,.string ByteArray.empty,.slice none 0 0]):=by kernel_rfl
theorem sM:∀ fs,Tryz.prog.underlying 122=some (.struct fs)→fs.toList.map (fun f=>(Tryz.prog.info? f.type).map (·.size))=([1,1,3,1]:List Nat).map some:=by
 intro fs h
 rw [Tryz.underlying122] at h
 cases h
 kernel_rfl
theorem gq:(Tryz.prog.info? 122).map (·.size)=some 6:=by kernel_rfl
instance iAG122:AA Tryz.prog 122 6:=⟨by kernel_rfl⟩
instance iFO122_0:FO Tryz.prog 122 0 0:=⟨by kernel_rfl⟩
theorem Gy:(Tryz.prog.info? 120).bind (·.zero)=some (.slice none 0 0):=by kernel_rfl
theorem Jl:(Tryz.prog.info? 120).map (·.size)=some 1:=by kernel_rfl
instance iAG120:AS Tryz.prog 120:=⟨by kernel_rfl⟩
theorem rA:(Tryz.prog.info? 181).bind (·.zero)=some (.agg #[.string ByteArray.empty,.string ByteArray.empty]):=by kernel_rfl
theorem Bd:∀ fs,Tryz.prog.underlying 181=some (.struct fs)→fs.toList.map (fun f=>(Tryz.prog.info? f.type).map (·.size))=([1,1]:List Nat).map some:=by
 intro fs h
 rw [Tryz.underlying181] at h
 cases h
 kernel_rfl
theorem qj:(Tryz.prog.info? 181).map (·.size)=some 2:=by kernel_rfl
instance iAG181:AA Tryz.prog 181 2:=⟨by kernel_rfl⟩
instance iUD49:UD Tryz.prog 49 (.slice 9):=⟨Tryz.underlying49⟩
instance iSZ9:SZ Tryz.prog 9 1:=⟨by kernel_rfl⟩
instance iUD120:UD Tryz.prog 120 (.slice 181):=⟨Tryz.underlying120⟩
instance iLT_Param:LenE ar.enc 2:=⟨ar.len⟩
instance iFO181_0:FO Tryz.prog 181 0 0:=⟨by kernel_rfl⟩
instance iSZ181:SZ Tryz.prog 181 2:=⟨by kernel_rfl⟩
theorem Js:fH Tryz.prog 120 181 2 32:=⟨⟨Tryz.t181,.agg #[.string ByteArray.empty,.string ByteArray.empty],Tryz.underlying120,by kernel_rfl,by kernel_rfl,by kernel_rfl,by kernel_rfl,by decide,by kernel_rfl⟩⟩
instance iFO122_1:FO Tryz.prog 122 1 1:=⟨by kernel_rfl⟩
instance iFO122_3:FO Tryz.prog 122 3 5:=⟨by kernel_rfl⟩
instance iFO181_1:FO Tryz.prog 181 1 1:=⟨by kernel_rfl⟩
instance iFO122_2:FO Tryz.prog 122 2 2:=⟨by kernel_rfl⟩
instance iFO80_2:FO Tryz.prog 80 2 17:=⟨by kernel_rfl⟩
instance iUD34:UD Tryz.prog 34 (.slice 55):=⟨Tryz.underlying34⟩
instance iLiT_Out:LenI ay.ienc 12:=⟨ay.ilen⟩
instance iSZ55:SZ Tryz.prog 55 12:=⟨by kernel_rfl⟩
instance iFO55_0:FO Tryz.prog 55 0 0:=⟨by kernel_rfl⟩
instance iFO51_0:FO Tryz.prog 51 0 0:=⟨by kernel_rfl⟩
instance iFO55_1:FO Tryz.prog 55 1 2:=⟨by kernel_rfl⟩
instance iFO55_2:FO Tryz.prog 55 2 3:=⟨by kernel_rfl⟩
abbrev aA.c (x:aA) (r:List AV):List AV:=vi x.LW::vs x.LI::vb x.LD.LQ::vs x.LD.LM::vs x.LD.LA :: .fl .shr 3 (flatten (map T_Path.enc x.To))::vb x.LY::fb x.Lx::vs x.Ly::vb x.LX::r
abbrev az.c (x:az) (r:List AV):List AV:=vb x.LD.LQ::vs x.LD.LM::vs x.LD.LA :: .fl .shr 3 (flatten (map T_Path.enc x.To))::fb x.Lw::vb x.LY::vs x.LI::vi x.At::r
abbrev aB.c (x:aB) (r:List AV):List AV:=vs (x.LB.getD 0 z0)::vs (x.LB.getD 1 z0)::vi x.LC::vs x.Mc::vs x.Ma::vi x.LN::vb x.LH::r
abbrev bn.c (x:bn) (r:List AV):List AV:=vi x.LK::vs x.Mb::vb x.LV.LQ::vs x.LV.LM::vs x.LV.LA :: .fl .shr 2 (flatten (map ar.enc x.LU))::r
theorem bc (n:Int) (lo:Int) (hi:Int) (r:Bool) (h:Sh.bt n lo hi=some r):bF Tryz.prog 49 [.v (.int .i64 n),.v (.int .i64 lo),.v (.int .i64 hi)] (.v (.bool r)):=by
 unfold Sh.bt at h
 refine yO 15 func49 fun g0 hn hio => ?_
 refine aG hn 1 [0,1,2] ?_
 refine ab ?_
 refine aq h (fun (s1:Bool)=>[(6,vb s1)]) ?_ ?_
 rintro s1 h
 refine ae (ak ?_)
 obtain rfl:=zi h
 exact al hio rfl (.tmp _ _ .nil) rfl rfl
 intro u2 h hl3 hr4
 refine ai h (fun hg1_3 h => ?_) (fun hg1_3 h => ?_)
 refine yx hn 4 ?_
 refine yd hg1_3 5 ?_
 refine ye [6] ?_
 exact hl3 _ (zi h).symm
 refine yx hn 4 ?_
 refine yd hg1_3 5 ?_
 refine ye [6] ?_
 exact hl3 _ (zi h).symm
theorem dl (c:Int) (r:Bool) (h:Sh.ci c=some r):bF Tryz.prog 50 [.v (.int .u8 c)] (.v (.bool r)):=by
 unfold Sh.ci at h
 refine yO 17 func50 fun g0 hn hio => ?_
 refine aG hn 1 [0] ?_
 refine ab ?_
 refine aq h (fun (s1:Bool)=>[(2,vb s1)]) ?_ ?_
 rintro s1 h
 refine ae (ak ?_)
 obtain rfl:=zi h
 exact al hio rfl (.tmp _ _ .nil) rfl rfl
 intro u2 h hl3 hr4
 refine ai h (fun hg1_2 h => ?_) (fun hg1_2 h => ?_)
 refine ai h (fun hg1_6 h => ?_) (fun hg1_6 h => ?_)
 refine yx hn 3 ?_
 refine yd hg1_2 4 ?_
 refine yd hg1_6 8 ?_
 refine ye [2] ?_
 exact hl3 _ (zi h).symm
 refine ai h (fun hg1_9 h => ?_) (fun hg1_9 h => ?_)
 refine yx hn 3 ?_
 refine yd hg1_2 4 ?_
 refine yd hg1_6 3 ?_
 refine yd hg1_9 5 ?_
 refine ye [2] ?_
 exact hl3 _ (zi h).symm
 refine yx hn 3 ?_
 refine yd hg1_2 4 ?_
 refine yd hg1_6 3 ?_
 refine yd hg1_9 5 ?_
 refine ye [2] ?_
 exact hl3 _ (zi h).symm
 refine ai h (fun hg1_9 h => ?_) (fun hg1_9 h => ?_)
 refine yx hn 3 ?_
 refine yd hg1_2 7 ?_
 refine yd hg1_9 5 ?_
 refine ye [2] ?_
 exact hl3 _ (zi h).symm
 refine yx hn 3 ?_
 refine yd hg1_2 7 ?_
 refine yd hg1_9 5 ?_
 refine ye [2] ?_
 exact hl3 _ (zi h).symm
theorem gn (c:Int) (r:Bool) (h:Sh.cv c=some r):bF Tryz.prog 51 [.v (.int .u8 c)] (.v (.bool r)):=by
 unfold Sh.cv at h
 refine yO 9 func51 fun g0 hn hio => ?_
 refine aG hn 1 [0] ?_
 refine ab ?_
 refine aq h (fun (s1:Bool)=>[(2,vb s1)]) ?_ ?_
 rintro s1 h
 refine ae (ak ?_)
 obtain rfl:=zi h
 exact al hio rfl (.tmp _ _ .nil) rfl rfl
 intro u2 h hl3 hr4
 refine ai h (fun hg1_2 h => ?_) (fun hg1_2 h => ?_)
 refine yx hn 3 ?_
 refine yd hg1_2 4 ?_
 refine ye [2] ?_
 exact hl3 _ (zi h).symm
 refine yx hn 3 ?_
 refine yd hg1_2 4 ?_
 refine ye [2] ?_
 exact hl3 _ (zi h).symm
theorem kh (c:Int) (r:Bool) (h:Sh.dp c=some r):bF Tryz.prog 63 [.v (.int .u8 c)] (.v (.bool r)):=by
 unfold Sh.dp at h
 refine yO 24 func63 fun g0 hn hio => ?_
 refine aG hn 1 [0] ?_
 refine ab (ab ?_)
 refine aq h (fun (s3:Bool)=>[(0,.v (.int .u8 c)),(10,vb s3)]) ?_ ?_
 rintro s3 h
 refine ae ?_
 refine zc h rfl (fun h => ?_) (fun h => ?_)
 refine aG hn 1 [2] ?_
 refine ak (ag ?_)
 obtain rfl:=zi h
 exact al hio rfl (.tmp _ _ .nil) rfl rfl
 refine am (ae ?_)
 refine aG hn 1 [0,3] ?_
 refine ab ?_
 refine aG hn 1 [0,3,4] ?_
 refine aS h (fun (s15:Int)=>[(0,.v (.int .u8 c)),(3,vs (⟨#[33,35,36,37,38,39,42,43,45,47,61,63,94,95,123,124,125,126]⟩:Mf)),(4,vi s15)]) (fun (():Unit)=>[(0,.v (.int .u8 c))]) ?_ ?_
 rintro ⟨⟩ h
 refine ae ?_
 refine aG hn 3 [2] ?_
 refine ak ?_
 obtain rfl:=zi h
 exact al hio rfl (.tmp _ _ .nil) rfl rfl
 rintro u18 hl19 hr20 s15 rr23 h ho21
 refine ab ?_
 refine aG hn 4 [0,3,4,14] ?_
 refine zc h rfl (fun h => ?_) (fun h => ?_)
 refine am ?_
 refine ae (ab ?_)
 refine aC (ab ?_)
 obtain ⟨v9,hv9,h⟩:=zn h
 refine yx hn 2 ?_
 refine ys 2 ⟨lh hv9⟩ ?_
 refine aV [0,3,4,21] ?_
 refine zc h rfl (fun h => ?_) (fun h => ?_)
 refine aG hn 1 [2] ?_
 refine ak (aF (ag (ag (aF (ag ?_)))))
 have h:=hr20 _ (ho21 _ (zi h).symm).symm
 obtain rfl:=zi h
 exact al hio rfl (.tmp _ _ .nil) rfl rfl
 refine am (aI (ae ?_))
 obtain ⟨v11,hv11,h⟩:=zn h
 refine yx hn 1 ?_
 refine ys 0 ⟨lb hv11⟩ ?_
 refine yw [4] 1 ?_
 refine ye [0,3,4] ?_
 exact bb _ (zi h).symm rfl
 refine ba (ap (ap (aZ ?_)))
 refine ah [0] (by kernel_rfl) (es':=[(_,_)]) rfl ?_
 exact hl19 _ (ho21 _ (zi h).symm).symm
 intro u4 h hl5 hr6
 obtain ⟨v1,hv1,h⟩:=zn h
 refine ai h (fun hg1_2 h => ?_) (fun hg1_2 h => ?_)
 refine yx hn 1 ?_
 refine ys 1 ⟨lk call50 (dl _ _ hv1)⟩ ?_
 refine yd hg1_2 3 ?_
 refine ye [0,10] ?_
 exact hl5 _ (zi h).symm
 obtain ⟨v2,hv2,h⟩:=zn h
 refine yx hn 1 ?_
 refine ys 1 ⟨lk call50 (dl _ _ hv1)⟩ ?_
 refine yd hg1_2 1 ?_
 refine ys 1 ⟨lk call51 (gn _ _ hv2)⟩ ?_
 refine ye [0,10] ?_
 exact hl5 _ (zi h).symm
theorem jO (s:Mf) (r:Bool) (h:Sh.eJ s=some r):bF Tryz.prog 43 [.v (.string s)] (.v (.bool r)):=by
 unfold Sh.eJ at h
 refine yO 51 func43 fun g0 hn hio => ?_
 refine aG hn 1 [0] ?_
 refine ab (ab ?_)
 refine aq h (fun (s5:Bool)=>[(0,vs s),(20,vb s5)]) ?_ ?_
 rintro s5 h
 refine ae ?_
 refine zc h rfl (fun h => ?_) (fun h => ?_)
 refine aG hn 1 [2] ?_
 refine ak (ag ?_)
 obtain rfl:=zi h
 exact al hio rfl (.tmp _ _ .nil) rfl rfl
 refine am ?_
 refine ae (ab ?_)
 refine aG hn 1 [0,3] ?_
 refine aS h (fun (s33:Int)=>[(0,vs s),(3,vi s33)]) (fun (():Unit)=>[]) ?_ ?_
 rintro ⟨⟩ h
 refine ae ?_
 refine aG hn 1 [2] ?_
 refine ak ?_
 obtain rfl:=zi h
 exact al hio rfl (.tmp _ _ .nil) rfl rfl
 rintro u40 hl41 hr42 s33 rr45 h ho43
 refine ab ?_
 refine aG hn 4 [0,3,24] ?_
 refine zc h rfl (fun h => ?_) (fun h => ?_)
 refine am ?_
 refine ae (ab ?_)
 refine aC (ab ?_)
 refine aq h (fun (s47:Bool)=>[(0,vs s),(3,vi s33),(50,vb s47)]) ?_ ?_
 rintro s47 h
 refine ae ?_
 refine zc h rfl (fun h => ?_) (fun h => ?_)
 refine aG hn 1 [2] ?_
 refine ak (aF (ag (ag (aF (ag ?_)))))
 have h:=hr42 _ (ho43 _ (zi h).symm).symm
 obtain rfl:=zi h
 exact al hio rfl (.tmp _ _ .nil) rfl rfl
 refine am (aI (ae ?_))
 obtain ⟨v25,hv25,h⟩:=zn h
 refine yx hn 1 ?_
 refine ys 0 ⟨lb hv25⟩ ?_
 refine yw [3] 1 ?_
 refine ye [0,3] ?_
 exact bb _ (zi h).symm rfl
 intro u48 h hl49 hr50
 obtain ⟨v11,hv11,h⟩:=zn h
 refine ai h (fun hg6_4 h => ?_) (fun hg6_4 h => ?_)
 obtain ⟨v12,hv12,v13,hv13,h⟩:=dM h
 refine ai h (fun hg6_11 h => ?_) (fun hg6_11 h => ?_)
 refine yx hn 2 ?_
 refine ys 2 ⟨lh hv11⟩ ?_
 refine yd hg6_4 2 ?_
 refine ys 0 ⟨lb hv12⟩ ?_
 refine ys 3 ⟨lh hv13⟩ ?_
 refine yd hg6_11 12 ?_
 refine ye [0,3,50] ?_
 exact hl49 _ (zi h).symm
 obtain ⟨v14,hv14,h⟩:=zn h
 refine ai h (fun hg6_16 h => ?_) (fun hg6_16 h => ?_)
 obtain ⟨v15,hv15,v16,hv16,h⟩:=dM h
 refine yx hn 2 ?_
 refine ys 2 ⟨lh hv11⟩ ?_
 refine yd hg6_4 2 ?_
 refine ys 0 ⟨lb hv12⟩ ?_
 refine ys 3 ⟨lh hv13⟩ ?_
 refine yd hg6_11 2 ?_
 refine ys 2 ⟨lh hv14⟩ ?_
 refine yd hg6_16 2 ?_
 refine ys 0 ⟨lh hv15⟩ ?_
 refine ys 3 ⟨lk call63 (kh _ _ hv16)⟩ ?_
 refine ye [0,3,50] ?_
 exact hl49 _ (zi h).symm
 refine yx hn 2 ?_
 refine ys 2 ⟨lh hv11⟩ ?_
 refine yd hg6_4 2 ?_
 refine ys 0 ⟨lb hv12⟩ ?_
 refine ys 3 ⟨lh hv13⟩ ?_
 refine yd hg6_11 2 ?_
 refine ys 2 ⟨lh hv14⟩ ?_
 refine yd hg6_16 7 ?_
 refine ye [0,3,50] ?_
 exact hl49 _ (zi h).symm
 obtain ⟨v17,hv17,h⟩:=zn h
 refine ai h (fun hg6_16 h => ?_) (fun hg6_16 h => ?_)
 obtain ⟨v18,hv18,v19,hv19,h⟩:=dM h
 refine yx hn 2 ?_
 refine ys 2 ⟨lh hv11⟩ ?_
 refine yd hg6_4 9 ?_
 refine ys 2 ⟨lh hv17⟩ ?_
 refine yd hg6_16 2 ?_
 refine ys 0 ⟨lh hv18⟩ ?_
 refine ys 3 ⟨lk call63 (kh _ _ hv19)⟩ ?_
 refine ye [0,3,50] ?_
 exact hl49 _ (zi h).symm
 refine yx hn 2 ?_
 refine ys 2 ⟨lh hv11⟩ ?_
 refine yd hg6_4 9 ?_
 refine ys 2 ⟨lh hv17⟩ ?_
 refine yd hg6_16 7 ?_
 refine ye [0,3,50] ?_
 exact hl49 _ (zi h).symm
 refine ba (ap (ap (aZ ?_)))
 refine ah [] (by kernel_rfl) (es':=[]) rfl ?_
 exact hl41 _ (ho43 _ (zi h).symm).symm
 intro u6 h hl7 hr8
 obtain ⟨v1,hv1,h⟩:=zn h
 refine ai h (fun hg1_4 h => ?_) (fun hg1_4 h => ?_)
 refine yx hn 2 ?_
 refine ys 2 ⟨lk call49 (bc _ _ _ _ hv1)⟩ ?_
 refine yd hg1_4 12 ?_
 refine ye [0,20] ?_
 exact hl7 _ (zi h).symm
 obtain ⟨v2,hv2,h⟩:=zn h
 refine ai h (fun hg1_9 h => ?_) (fun hg1_9 h => ?_)
 refine yx hn 2 ?_
 refine ys 2 ⟨lk call49 (bc _ _ _ _ hv1)⟩ ?_
 refine yd hg1_4 1 ?_
 refine ys 3 ⟨lh hv2⟩ ?_
 refine yd hg1_9 7 ?_
 refine ye [0,20] ?_
 exact hl7 _ (zi h).symm
 obtain ⟨v3,hv3,v4,hv4,h⟩:=dM h
 refine yx hn 2 ?_
 refine ys 2 ⟨lk call49 (bc _ _ _ _ hv1)⟩ ?_
 refine yd hg1_4 1 ?_
 refine ys 3 ⟨lh hv2⟩ ?_
 refine yd hg1_9 3 ?_
 refine ys 0 ⟨lb hv3⟩ ?_
 refine ys 2 ⟨lh hv4⟩ ?_
 refine ye [0,20] ?_
 exact hl7 _ (zi h).symm
theorem nb (s:Mf) (r:Bool) (h:Sh.ei s=some r):bF Tryz.prog 28 [.v (.string s)] (.v (.bool r)):=by
 unfold Sh.ei at h
 refine yO 63 func28 fun g0 hn hio => ?_
 refine aG hn 1 [0] ?_
 refine ab (ab ?_)
 obtain ⟨v1,hv1,h⟩:=zn h
 refine yx hn 2 ?_
 refine ys 1 ⟨lk call49 (bc _ _ _ _ hv1)⟩ ?_
 refine aV [0,8] ?_
 refine zc h rfl (fun h => ?_) (fun h => ?_)
 refine aG hn 1 [2] ?_
 refine ak (ag ?_)
 obtain rfl:=zi h
 exact al hio rfl (.tmp _ _ .nil) rfl rfl
 refine am (ae ?_)
 refine aG hn 1 [0,3] ?_
 refine ab ?_
 refine aG hn 1 [0,3,4] ?_
 refine aS h (fun ((s88,s89):Int×Int)=>[(0,vs s),(3,vi s88),(4,vi s89)]) (fun (():Unit)=>[]) ?_ ?_
 rintro ⟨⟩ h
 refine ae ?_
 refine aG hn 1 [2] ?_
 refine ak ?_
 obtain rfl:=zi h
 exact al hio rfl (.tmp _ _ .nil) rfl rfl
 rintro u125 hl126 hr127 ⟨s88,s89⟩ rr130 h ho128
 refine ab ?_
 refine aG hn 4 [0,3,4,12] ?_
 refine zc h rfl (fun h => ?_) (fun h => ?_)
 refine am ?_
 refine ae (ab ?_)
 refine aq h (fun (s147:Int)=>[(0,vs s),(3,vi s147),(4,vi s89)]) ?_ ?_
 rintro s147 h
 refine ae ?_
 obtain ⟨v50,hv50,h⟩:=zn h
 refine yx hn 1 ?_
 refine ys 0 ⟨lb hv50⟩ ?_
 refine yw [4] 1 ?_
 refine ye [0,3,4] ?_
 exact bb _ (zi h).symm rfl
 intro u148 h hl149 hr150
 refine aC (ab (ab ?_))
 refine aq h (fun (s151:Bool)=>[(0,vs s),(3,vi s88),(4,vi s89),(24,vb s151)]) ?_ ?_
 rintro s151 h
 refine ae ?_
 refine zc h rfl (fun h => ?_) (fun h => ?_)
 refine ab (ab ?_)
 refine aq h (fun (s156:Bool)=>[(0,vs s),(3,vi s88),(4,vi s89),(42,vb s156)]) ?_ ?_
 rintro s156 h
 refine ae ?_
 refine zc h rfl (fun h => ?_) (fun h => ?_)
 refine aG hn 1 [2] ?_
 refine ak (ag (ag (aF (ag (ag (aF (ag ?_)))))))
 have h:=hr150 _ (zi h).symm
 have h:=hr127 _ (ho128 _ (zi h).symm).symm
 obtain rfl:=zi h
 exact al hio rfl (.tmp _ _ .nil) rfl rfl
 refine am (ae (ba (ap (aZ ?_))))
 refine ah [0,1,2] (by kernel_rfl) (es':=[(_,_),(_,_),(_,_)]) rfl ?_
 exact hl149 _ (zi h).symm
 intro u157 h hl158 hr159
 obtain ⟨v10,hv10,v11,hv11,h⟩:=dM h
 refine ai h (fun hg8_5 h => ?_) (fun hg8_5 h => ?_)
 obtain ⟨v12,hv12,v13,hv13,h⟩:=dM h
 refine ai h (fun hg8_12 h => ?_) (fun hg8_12 h => ?_)
 obtain ⟨v14,hv14,h⟩:=zn h
 refine yx hn 2 ?_
 refine ys 0 ⟨lh hv10⟩ ?_
 refine ys 2 ⟨lk call50 (dl _ _ hv11)⟩ ?_
 refine yd hg8_5 2 ?_
 refine ys 0 ⟨lh hv12⟩ ?_
 refine ys 3 ⟨lk call51 (gn _ _ hv13)⟩ ?_
 refine yd hg8_12 2 ?_
 refine ys 2 ⟨lh hv14⟩ ?_
 refine ye [0,3,4,42] ?_
 exact hl158 _ (zi h).symm
 refine yx hn 2 ?_
 refine ys 0 ⟨lh hv10⟩ ?_
 refine ys 2 ⟨lk call50 (dl _ _ hv11)⟩ ?_
 refine yd hg8_5 2 ?_
 refine ys 0 ⟨lh hv12⟩ ?_
 refine ys 3 ⟨lk call51 (gn _ _ hv13)⟩ ?_
 refine yd hg8_12 5 ?_
 refine ye [0,3,4,42] ?_
 exact hl158 _ (zi h).symm
 refine yx hn 2 ?_
 refine ys 0 ⟨lh hv10⟩ ?_
 refine ys 2 ⟨lk call50 (dl _ _ hv11)⟩ ?_
 refine yd hg8_5 12 ?_
 refine ye [0,3,4,42] ?_
 exact hl158 _ (zi h).symm
 refine am ?_
 refine ae (ab ?_)
 refine ab ?_
 refine aq h (fun (s161:Bool)=>[(0,vs s),(4,vi s89),(60,vb s161)]) ?_ ?_
 rintro s161 h
 refine ae ?_
 refine zc h rfl (fun h => ?_) (fun h => ?_)
 refine aG hn 1 [2] ?_
 refine ak (ag (aF (ag (ag (aF (ag ?_))))))
 have h:=hr150 _ (zi h).symm
 have h:=hr127 _ (ho128 _ (zi h).symm).symm
 obtain rfl:=zi h
 exact al hio rfl (.tmp _ _ .nil) rfl rfl
 refine am (ae ?_)
 obtain ⟨v30,hv30,h⟩:=zn h
 refine yx hn 1 ?_
 refine ys 1 ⟨lb hv30⟩ ?_
 refine ye [0,4,3] ?_
 refine aI ?_
 refine ah [0,2,1] (by kernel_rfl) (es':=[(_,_),(_,_),(_,_)]) rfl ?_
 exact hl149 _ (zi h).symm
 intro u162 h hl163 hr164
 obtain ⟨v20,hv20,v21,hv21,h⟩:=dM h
 refine ai h (fun hg10_5 h => ?_) (fun hg10_5 h => ?_)
 refine yx hn 2 ?_
 refine ys 0 ⟨lb hv20⟩ ?_
 refine ys 2 ⟨lk call49 (bc _ _ _ _ hv21)⟩ ?_
 refine yd hg10_5 12 ?_
 refine ye [0,4,60] ?_
 exact hl163 _ (zi h).symm
 obtain ⟨v22,hv22,h⟩:=zn h
 refine ai h (fun hg10_11 h => ?_) (fun hg10_11 h => ?_)
 refine yx hn 2 ?_
 refine ys 0 ⟨lb hv20⟩ ?_
 refine ys 2 ⟨lk call49 (bc _ _ _ _ hv21)⟩ ?_
 refine yd hg10_5 2 ?_
 refine ys 3 ⟨lh hv22⟩ ?_
 refine yd hg10_11 6 ?_
 refine ye [0,4,60] ?_
 exact hl163 _ (zi h).symm
 obtain ⟨v23,hv23,v24,hv24,h⟩:=dM h
 refine yx hn 2 ?_
 refine ys 0 ⟨lb hv20⟩ ?_
 refine ys 2 ⟨lk call49 (bc _ _ _ _ hv21)⟩ ?_
 refine yd hg10_5 2 ?_
 refine ys 3 ⟨lh hv22⟩ ?_
 refine yd hg10_11 2 ?_
 refine ys 0 ⟨lb hv23⟩ ?_
 refine ys 2 ⟨lh hv24⟩ ?_
 refine ye [0,4,60] ?_
 exact hl163 _ (zi h).symm
 intro u152 h hl153 hr154
 refine ai h (fun hg7_4 h => ?_) (fun hg7_4 h => ?_)
 obtain ⟨v4,hv4,h⟩:=zn h
 refine yx hn 5 ?_
 refine yd hg7_4 2 ?_
 refine ys 2 ⟨lh hv4⟩ ?_
 refine ye [0,3,4,24] ?_
 exact hl153 _ (zi h).symm
 refine yx hn 5 ?_
 refine yd hg7_4 5 ?_
 refine ye [0,3,4,24] ?_
 exact hl153 _ (zi h).symm
 refine ba (ap (ap (aZ ?_)))
 refine ah [] (by kernel_rfl) (es':=[]) rfl ?_
 exact hl126 _ (ho128 _ (zi h).symm).symm
theorem bz (p:T_Path) (r:Bool) (h:Sh.cp p=some r):bF Tryz.prog 17 [.agg [.v (.bool p.LQ),.v (.string p.LM),.v (.string p.LA)]] (.v (.bool r)):=by
 unfold Sh.cp at h
 refine yO 21 func17 fun g0 hn hio => ?_
 refine aG hn 2 [1] ?_
 refine ab ?_
 refine aG hn 2 [1,4] ?_
 refine zc h rfl (fun h => ?_) (fun h => ?_)
 refine ab ?_
 refine aq h (fun (s2:Bool)=>[(2,vb s2)]) ?_ ?_
 rintro s2 h
 refine ae (ak ?_)
 refine ag ?_
 obtain rfl:=zi h
 exact al hio rfl (.tmp _ _ .nil) rfl rfl
 intro u3 h hl4 hr5
 refine ai h (fun hg2_3 h => ?_) (fun hg2_3 h => ?_)
 refine yx hn 4 ?_
 refine yd hg2_3 5 ?_
 refine ye [2] ?_
 exact hl4 _ (zi h).symm
 refine yx hn 4 ?_
 refine yd hg2_3 5 ?_
 refine ye [2] ?_
 exact hl4 _ (zi h).symm
 refine am ?_
 refine ae (ab ?_)
 refine aq h (fun (s8:Bool)=>[(2,vb s8)]) ?_ ?_
 rintro s8 h
 refine ae (ak ?_)
 obtain rfl:=zi h
 exact al hio rfl (.tmp _ _ .nil) rfl rfl
 intro u9 h hl10 hr11
 obtain ⟨v6,hv6,h⟩:=zn h
 refine ai h (fun hg3_3 h => ?_) (fun hg3_3 h => ?_)
 obtain ⟨v7,hv7,h⟩:=zn h
 refine yx hn 2 ?_
 refine ys 1 ⟨lk call43 (jO _ _ hv6)⟩ ?_
 refine yd hg3_3 2 ?_
 refine ys 2 ⟨lk call28 (nb _ _ hv7)⟩ ?_
 refine ye [2] ?_
 exact hl10 _ (zi h).symm
 refine yx hn 2 ?_
 refine ys 1 ⟨lk call43 (jO _ _ hv6)⟩ ?_
 refine yd hg3_3 5 ?_
 refine ye [2] ?_
 exact hl10 _ (zi h).symm
theorem eV (b:(List Int)) (r:Bool) (h:Sh.bB b=some r):bF Tryz.prog 18 [.fl .shr 1 (map (int .u8) b)] (.v (.bool r)):=by
 unfold Sh.bB at h
 refine yO 61 func18 fun g0 hn hio => ?_
 refine aG hn 1 [0] ?_
 refine ab ?_
 refine aG hn 1 [0,3] ?_
 refine aS h (fun (s31:Int)=>[(0,fb b),(3,vi s31)]) (fun (():Unit)=>[(0,fb b)]) ?_ ?_
 rintro ⟨⟩ h
 refine ae (ab ?_)
 refine aq h (fun (s53:Bool)=>[(2,vb s53)]) ?_ ?_
 rintro s53 h
 refine ae (ak ?_)
 obtain rfl:=zi h
 exact al hio rfl (.tmp _ _ .nil) rfl rfl
 intro u54 h hl55 hr56
 refine ai h (fun hg6_3 h => ?_) (fun hg6_3 h => ?_)
 refine yx hn 4 ?_
 refine yd hg6_3 9 ?_
 refine ye [2] ?_
 exact hl55 _ (zi h).symm
 obtain ⟨v50,hv50,v51,hv51,v52,hv52,h⟩:=ng h
 refine yx hn 4 ?_
 refine yd hg6_3 3 ?_
 refine ys 0 ⟨lb hv50⟩ ?_
 refine ys 0 ⟨li hv51⟩ ?_
 refine ys 3 ⟨ll hv52⟩ ?_
 refine ye [2] ?_
 exact hl55 _ (zi h).symm
 rintro u38 hl39 hr40 s31 rr43 h ho41
 refine ab ?_
 refine aG hn 4 [0,3,7] ?_
 refine zc h rfl (fun h => ?_) (fun h => ?_)
 refine am ?_
 refine ae (ab ?_)
 refine aC (ab ?_)
 refine aq h (fun (s45:Bool)=>[(0,fb b),(3,vi s31),(48,vb s45)]) ?_ ?_
 rintro s45 h
 refine ae ?_
 refine zc h rfl (fun h => ?_) (fun h => ?_)
 refine aG hn 1 [2] ?_
 refine ak (aF (ag (ag (aF (ag ?_)))))
 have h:=hr40 _ (ho41 _ (zi h).symm).symm
 obtain rfl:=zi h
 exact al hio rfl (.tmp _ _ .nil) rfl rfl
 refine am (aI (ae ?_))
 obtain ⟨v23,hv23,h⟩:=zn h
 refine yx hn 1 ?_
 refine ys 0 ⟨lb hv23⟩ ?_
 refine yw [3] 1 ?_
 refine ye [0,3] ?_
 exact bb _ (zi h).symm rfl
 intro u46 h hl47 hr48
 obtain ⟨v2,hv2,v3,hv3,h⟩:=dM h
 refine ai h (fun hg4_5 h => ?_) (fun hg4_5 h => ?_)
 obtain ⟨v4,hv4,h⟩:=zn h
 refine ai h (fun hg4_11 h => ?_) (fun hg4_11 h => ?_)
 refine yx hn 2 ?_
 refine ys 0 ⟨li hv2⟩ ?_
 refine ys 2 ⟨ll hv3⟩ ?_
 refine yd hg4_5 1 ?_
 refine ys 4 ⟨lb hv4⟩ ?_
 refine yd hg4_11 27 ?_
 refine ye [0,3,48] ?_
 exact hl47 _ (zi h).symm
 obtain ⟨v5,hv5,v6,hv6,v7,hv7,h⟩:=ng h
 refine ai h (fun hg4_20 h => ?_) (fun hg4_20 h => ?_)
 refine yx hn 2 ?_
 refine ys 0 ⟨li hv2⟩ ?_
 refine ys 2 ⟨ll hv3⟩ ?_
 refine yd hg4_5 1 ?_
 refine ys 4 ⟨lb hv4⟩ ?_
 refine yd hg4_11 2 ?_
 refine ys 0 ⟨lb hv5⟩ ?_
 refine ys 0 ⟨li hv6⟩ ?_
 refine ys 4 ⟨ll hv7⟩ ?_
 refine yd hg4_20 18 ?_
 refine ye [0,3,48] ?_
 exact hl47 _ (zi h).symm
 obtain ⟨v8,hv8,v9,hv9,h⟩:=dM h
 refine ai h (fun hg4_26 h => ?_) (fun hg4_26 h => ?_)
 refine ai h (fun hg4_29 h => ?_) (fun hg4_29 h => ?_)
 refine yx hn 2 ?_
 refine ys 0 ⟨li hv2⟩ ?_
 refine ys 2 ⟨ll hv3⟩ ?_
 refine yd hg4_5 1 ?_
 refine ys 4 ⟨lb hv4⟩ ?_
 refine yd hg4_11 2 ?_
 refine ys 0 ⟨lb hv5⟩ ?_
 refine ys 0 ⟨li hv6⟩ ?_
 refine ys 4 ⟨ll hv7⟩ ?_
 refine yd hg4_20 2 ?_
 refine ys 0 ⟨li hv8⟩ ?_
 refine ys 2 ⟨ll hv9⟩ ?_
 refine yd hg4_26 3 ?_
 refine yd hg4_29 9 ?_
 refine ye [0,3,48] ?_
 exact hl47 _ (zi h).symm
 obtain ⟨v10,hv10,v11,hv11,v12,hv12,h⟩:=ng h
 refine yx hn 2 ?_
 refine ys 0 ⟨li hv2⟩ ?_
 refine ys 2 ⟨ll hv3⟩ ?_
 refine yd hg4_5 1 ?_
 refine ys 4 ⟨lb hv4⟩ ?_
 refine yd hg4_11 2 ?_
 refine ys 0 ⟨lb hv5⟩ ?_
 refine ys 0 ⟨li hv6⟩ ?_
 refine ys 4 ⟨ll hv7⟩ ?_
 refine yd hg4_20 2 ?_
 refine ys 0 ⟨li hv8⟩ ?_
 refine ys 2 ⟨ll hv9⟩ ?_
 refine yd hg4_26 3 ?_
 refine yd hg4_29 2 ?_
 refine ys 0 ⟨lb hv10⟩ ?_
 refine ys 0 ⟨li hv11⟩ ?_
 refine ys 4 ⟨ll hv12⟩ ?_
 refine ye [0,3,48] ?_
 exact hl47 _ (zi h).symm
 refine yx hn 2 ?_
 refine ys 0 ⟨li hv2⟩ ?_
 refine ys 2 ⟨ll hv3⟩ ?_
 refine yd hg4_5 1 ?_
 refine ys 4 ⟨lb hv4⟩ ?_
 refine yd hg4_11 2 ?_
 refine ys 0 ⟨lb hv5⟩ ?_
 refine ys 0 ⟨li hv6⟩ ?_
 refine ys 4 ⟨ll hv7⟩ ?_
 refine yd hg4_20 2 ?_
 refine ys 0 ⟨li hv8⟩ ?_
 refine ys 2 ⟨ll hv9⟩ ?_
 refine yd hg4_26 12 ?_
 refine ye [0,3,48] ?_
 exact hl47 _ (zi h).symm
 obtain ⟨v13,hv13,v14,hv14,h⟩:=dM h
 refine ai h (fun hg4_26 h => ?_) (fun hg4_26 h => ?_)
 refine ai h (fun hg4_29 h => ?_) (fun hg4_29 h => ?_)
 refine yx hn 2 ?_
 refine ys 0 ⟨li hv2⟩ ?_
 refine ys 2 ⟨ll hv3⟩ ?_
 refine yd hg4_5 17 ?_
 refine ys 0 ⟨li hv13⟩ ?_
 refine ys 2 ⟨ll hv14⟩ ?_
 refine yd hg4_26 3 ?_
 refine yd hg4_29 9 ?_
 refine ye [0,3,48] ?_
 exact hl47 _ (zi h).symm
 obtain ⟨v15,hv15,v16,hv16,v17,hv17,h⟩:=ng h
 refine yx hn 2 ?_
 refine ys 0 ⟨li hv2⟩ ?_
 refine ys 2 ⟨ll hv3⟩ ?_
 refine yd hg4_5 17 ?_
 refine ys 0 ⟨li hv13⟩ ?_
 refine ys 2 ⟨ll hv14⟩ ?_
 refine yd hg4_26 3 ?_
 refine yd hg4_29 2 ?_
 refine ys 0 ⟨lb hv15⟩ ?_
 refine ys 0 ⟨li hv16⟩ ?_
 refine ys 4 ⟨ll hv17⟩ ?_
 refine ye [0,3,48] ?_
 exact hl47 _ (zi h).symm
 refine yx hn 2 ?_
 refine ys 0 ⟨li hv2⟩ ?_
 refine ys 2 ⟨ll hv3⟩ ?_
 refine yd hg4_5 17 ?_
 refine ys 0 ⟨li hv13⟩ ?_
 refine ys 2 ⟨ll hv14⟩ ?_
 refine yd hg4_26 12 ?_
 refine ye [0,3,48] ?_
 exact hl47 _ (zi h).symm
 refine ba (ap (ap (aZ ?_)))
 refine ah [0] (by kernel_rfl) (es':=[(_,_)]) rfl ?_
 exact hl39 _ (ho41 _ (zi h).symm).symm
theorem eY (p:T_Path) (r:Mf) (h:Sh.cH p=some r):bF Tryz.prog 19 [.agg [.v (.bool p.LQ),.v (.string p.LM),.v (.string p.LA)]] (.v (.string r)):=by
 unfold Sh.cH at h
 refine yO 13 func19 fun g0 hn hio => ?_
 refine aG hn 2 [1] ?_
 refine ab ?_
 refine aG hn 2 [1,4] ?_
 refine zc h rfl (fun h => ?_) (fun h => ?_)
 refine aG hn 1 [2] ?_
 refine ak (ag ?_)
 obtain rfl:=zi h
 exact al hio rfl (.tmp _ _ .nil) rfl rfl
 refine am ?_
 refine ae (ab ?_)
 obtain ⟨v2,hv2,v3,hv3,v4,hv4,v5,hv5,h⟩:=jX h
 refine yx hn 2 ?_
 refine ys 0 ⟨lB (bu hv2)⟩ ?_
 refine ys 2 ⟨lB (bu hv3)⟩ ?_
 refine ys 0 ⟨lB (bu hv4)⟩ ?_
 refine ys 1 ⟨lB (bu hv5)⟩ ?_
 refine aV [2] ?_
 refine ak ?_
 obtain rfl:=zi h
 exact al hio rfl (.tmp _ _ .nil) rfl rfl
theorem dO (r:aB) (h:Sh.dr  = some r):bF Tryz.prog 20 [] (.agg [.v (.string ((r.LB.getD 0 (⟨#[]⟩:Mf)))),.v (.string ((r.LB.getD 1 (⟨#[]⟩:Mf)))),.v (.int .i64 r.LC),.v (.string r.Mc),.v (.string r.Ma),.v (.int .i64 r.LN),.v (.bool r.LH)]):=by
 unfold Sh.dr at h
 refine yO 3 func20 fun g0 hn hio => ?_
 refine gH hn 0 ?_
 refine yS (.box 24 [vs z0,vs z0,vi 0,vs z0,vs z0,vi 0,vb false]) 0 ⟨oA (aT _ _ IW)⟩ ?_
 refine aV [0] ?_
 refine gH hn 0 ?_
 refine yS (.agg [vs (⟨#[97]⟩:Mf),vs (⟨#[98]⟩:Mf)]) 0 ⟨uA _ _ (.agg #[.string ByteArray.empty,.string ByteArray.empty]) (map Value.string (([(⟨#[97]⟩:Mf),(⟨#[98]⟩:Mf)]:List Mf))) [(0,.string (⟨#[97]⟩:Mf)),(1,.string (⟨#[98]⟩:Mf))] underlying22 sP KA (fun _ V w o a hv hes=>by simp only [List.map_toArray,List.map_cons,List.map_nil]; try rfl) (cN (by simp [Instr.fill,Value.cells]; rfl) (by simp)) rfl⟩ ?_
 refine yS (.agg [vs (⟨#[97]⟩:Mf),vs (⟨#[98]⟩:Mf),vi 9,vs (⟨#[117]⟩:Mf),vs (⟨#[115]⟩:Mf),vi 9000,vb false]) 1 ⟨bw _ _ _ _ [2,1,1,1,1,1] _ _ underlying24 IW (Km _ underlying24) (.copy _ (.copy _ (.copy _ (.copy _ (.copy _ mb.nil))))) rfl rfl rfl⟩ ?_
 refine aV [0] ?_
 refine ak ?_
 obtain rfl:=zi h
 exact al hio rfl (.cellA _ _ _ _ underlying24 rfl Ji .nil) rfl rfl
theorem jU (b:(List Int)) (r:(List Int)) (h:Sh.cR b=some r):bF Tryz.prog 21 [.fl .shr 1 (map (int .u8) b)] (.fl (.own 5) 1 (map (int .u8) r)):=by
 unfold Sh.cR at h
 refine yO 41 func21 fun g0 hn hio => ?_
 refine aG hn 1 [0] ?_
 refine aG hn 1 [0,3] ?_
 refine ab ?_
 refine aG hn 1 [0,3,4] ?_
 refine mK (fs:=[(0,fb b),(3,.fl (.own 5) 1 (map (int .u8) [])),(4,vi 0)]) (.same _ (.sub _ (bL 5 1) rfl (.same _ .nil))) ?_
 refine aS h (fun ((s43,s44):(List Int)×Int)=>[(0,fb b),(3,.fl (.own 5) 1 (map (int .u8) s43)),(4,vi s44)]) (fun (s60:(List Int))=>[(3,.fl (.own 5) 1 (map (int .u8) s60))]) ?_ ?_
 rintro s60 h
 refine ae (ab ?_)
 obtain ⟨v82,hv82,h⟩:=zn h
 refine yx hn 0 ?_
 refine ym 0 ?_
 refine yS (.fl (.own 5) 1 (map (int .u8) [46,13,10])) 0 ⟨bf _ _ 1 (.int .u8 0) (map (int .u8) [46,13,10]) [(0,.int .u8 46),(1,.int .u8 13),(2,.int .u8 10)] underlying28 lJ rM (fun _ V w o a hv hes=>by simp only [List.map_toArray,List.map_cons,List.map_nil]; try rfl) (cN (by simp [Instr.fill,Value.cells]; rfl) (by simp [List.range,List.range.loop] <;> rfl)) (by simp [Value.oneCell']) rfl (by decide) (by decide) (by decide)⟩ ?_
 refine yp fZ hv82 0 ?_
 refine ya 0 ?_
 refine aV [2] ?_
 refine ak ?_
 obtain rfl:=zi h
 exact al hio rfl (.tmp _ _ .nil) rfl rfl
 rintro u61 hl62 hr63 ⟨s43,s44⟩ rr66 h ho64
 refine ab ?_
 refine aG hn 4 [0,3,4,8] ?_
 refine zc h rfl (fun h => ?_) (fun h => ?_)
 refine am ?_
 refine ae (ab ?_)
 refine aC (ab ?_)
 refine aq h (fun (s73:(List Int))=>[(0,fb b),(4,vi s44),(3,.fl (.own 5) 1 (map (int .u8) s73))]) ?_ ?_
 rintro s73 h
 refine ae ?_
 obtain ⟨v22,hv22,v23,hv23,v24,hv24,h⟩:=ng h
 refine yx hn 0 ?_
 refine ym 2 ?_
 refine ys 0 ⟨li hv22⟩ ?_
 refine ys 0 ⟨ll hv23⟩ ?_
 refine yS (.fl (.own 5) 1 (map (int .u8) [v23])) 0 ⟨bf _ _ 1 (.int .u8 0) (map (int .u8) [v23]) [(0,.int .u8 v23)] underlying28 lJ rM (fun _ V w o a hv hes=>by have e0:=bZ hv hes (x := .tmp 35) rfl; simp only [List.map_toArray,List.map_cons,List.map_nil,e0]; try rfl) (cN (by simp [Instr.fill,Value.cells]; rfl) (by simp [List.range,List.range.loop] <;> rfl)) (by simp [Value.oneCell']) rfl (by decide) (by decide) (by decide)⟩ ?_
 refine yp fZ hv24 0 ?_
 refine ya 0 ?_
 refine ye [0,4,3] ?_
 refine aI (ae ?_)
 obtain ⟨v25,hv25,h⟩:=zn h
 refine yx hn 1 ?_
 refine ys 0 ⟨lb hv25⟩ ?_
 refine yw [4] 1 ?_
 refine ye [0,3,4] ?_
 exact bb _ (zi h).symm rfl
 intro u74 h hl75 hr76
 refine ab ?_
 refine aq h (fun (s77:Bool)=>[(0,fb b),(3,.fl (.own 5) 1 (map (int .u8) s43)),(4,vi s44),(27,vb s77)]) ?_ ?_
 rintro s77 h
 refine ae ?_
 refine zc h rfl (fun h => ?_) (fun h => ?_)
 obtain ⟨v12,hv12,h⟩:=zn h
 refine yx hn 0 ?_
 refine ym 0 ?_
 refine yS (.fl (.own 5) 1 (map (int .u8) [46])) 0 ⟨bf _ _ 1 (.int .u8 0) (map (int .u8) [46]) [(0,.int .u8 46)] underlying28 lJ rM (fun _ V w o a hv hes=>by simp only [List.map_toArray,List.map_cons,List.map_nil]; try rfl) (cN (by simp [Instr.fill,Value.cells]; rfl) (by simp [List.range,List.range.loop] <;> rfl)) (by simp [Value.oneCell']) rfl (by decide) (by decide) (by decide)⟩ ?_
 refine yp fZ hv12 0 ?_
 refine ya 0 ?_
 refine ye [0,4,3] ?_
 exact hl75 _ (zi h).symm
 refine am ?_
 refine ah [0,2,1] (by kernel_rfl) (es':=[(_,_),(_,_),(_,_)]) rfl ?_
 exact hl75 _ (zi h).symm
 intro u78 h hl79 hr80
 obtain ⟨v2,hv2,v3,hv3,h⟩:=dM h
 refine ai h (fun hg5_5 h => ?_) (fun hg5_5 h => ?_)
 refine ai h (fun hg5_8 h => ?_) (fun hg5_8 h => ?_)
 refine yx hn 2 ?_
 refine ys 0 ⟨li hv2⟩ ?_
 refine ys 2 ⟨ll hv3⟩ ?_
 refine yd hg5_5 3 ?_
 refine yd hg5_8 8 ?_
 refine ye [0,3,4,27] ?_
 exact hl79 _ (zi h).symm
 obtain ⟨v4,hv4,v5,hv5,v6,hv6,h⟩:=ng h
 refine yx hn 2 ?_
 refine ys 0 ⟨li hv2⟩ ?_
 refine ys 2 ⟨ll hv3⟩ ?_
 refine yd hg5_5 3 ?_
 refine yd hg5_8 2 ?_
 refine ys 0 ⟨lb hv4⟩ ?_
 refine ys 0 ⟨li hv5⟩ ?_
 refine ys 3 ⟨ll hv6⟩ ?_
 refine ye [0,3,4,27] ?_
 exact hl79 _ (zi h).symm
 refine yx hn 2 ?_
 refine ys 0 ⟨li hv2⟩ ?_
 refine ys 2 ⟨ll hv3⟩ ?_
 refine yd hg5_5 11 ?_
 refine ye [0,3,4,27] ?_
 exact hl79 _ (zi h).symm
 refine ba (ap (ap (aZ ?_)))
 refine ah [1] (by kernel_rfl) (es':=[(_,_)]) rfl ?_
 exact hl62 _ (ho64 _ (zi h).symm).symm
theorem ry (challenge:Mf) (r:aA) (h:Sh.qH challenge=some r):bF Tryz.prog 22 [.v (.string challenge)] (.agg [.v (.int .i64 r.LW),.v (.string r.LI),.v (.bool r.LD.LQ),.v (.string r.LD.LM),.v (.string r.LD.LA),.fl (.own 26) 3 (flatten (map T_Path.enc r.To)),.v (.bool r.LY),.fl (.own 5) 1 (map (int .u8) r.Lx),.v (.string r.Ly),.v (.bool r.LX)]):=by
 unfold Sh.qH at h
 refine yO 5 func22 fun g0 hn hio => ?_
 refine gH hn 0 ?_
 refine yS (.box 30 [vi 0,vs z0,vb false,vs z0,vs z0,vz,vb false,vz,vs z0,vb false]) 0 ⟨oA (aT _ _ xf)⟩ ?_
 refine aV [0,2] ?_
 refine gH hn 1 ?_
 refine yS (.agg [vi 0,vs z0,vb false,vs z0,vs z0,vz,vb false,vz,vs challenge,vb false]) 1 ⟨bw _ _ _ _ [1,1,3,1,1,1,1,1] _ _ underlying30 xf (HV _ underlying30) (.copy _ (.copy _ mb.nil)) rfl rfl rfl⟩ ?_
 refine aV [2] ?_
 refine ak ?_
 refine cq (fs:=[(2,.box 30 [vi 0,vs z0,vb false,vs z0,vs z0,.fl (.own 26) 3 (flatten (map T_Path.enc [])),vb false,.fl (.own 5) 1 (map (int .u8) []),vs challenge,vb false])]) (.box _ _ (af (aj _) (af (aj _) (af (aj _) (af (aj _) (af (aj _) (af (bL 26 3) (af (aj _) (af (bL 5 1) (af (aj _) (af (aj _) (bC))))))))))) rfl .nil) ?_
 obtain rfl:=zi h
 exact al hio rfl (.cellA _ _ _ _ underlying30 rfl sS .nil) rfl rfl
theorem pd (s:Mf) (sep:Mf) (sepSave:Int) (r:(Mf×Mf×Int)) (h:Sh.jk s sep sepSave=some r):bF Tryz.prog 93 [.v (.string s),.v (.string sep),.v (.int .i64 sepSave)] (.cloB 119 [.box 9 [.v (.string r.1)],.box 9 [.v (.string r.2.1)],.box 3 [.v (.int .i64 r.2.2)]]):=by
 unfold Sh.jk at h
 refine yO 8 func93 fun g0 hn hio => ?_
 refine aG hn 4 [3,4,5] ?_
 refine gH hn 0 ?_
 refine yk [4,3,5] [] ?_
 refine yt (7,.cloB 119 [.box 9 [vs sep],.box 9 [vs s],.box 3 [vi sepSave]]) 0 ⟨wR _ _ [4,3,5] [.box 9 [vs sep],.box 9 [vs s],.box 3 [vi sepSave]] rfl rfl rfl⟩ ?_
 refine ya 0 ?_
 refine aV [6] ?_
 refine ak ?_
 obtain rfl:=zi h
 exact al hio rfl (.tmp _ _ .nil) rfl rfl
theorem gG (s:Mf) (sep:Mf) (r:(Mf×Mf×Int)) (h:Sh.dV s sep=some r):bF Tryz.prog 80 [.v (.string s),.v (.string sep)] (.cloB 119 [.box 9 [.v (.string r.1)],.box 9 [.v (.string r.2.1)],.box 3 [.v (.int .i64 r.2.2)]]):=by
 unfold Sh.dV at h
 refine yO 8 func80 fun g0 hn hio => ?_
 refine aG hn 1 [0,1] ?_
 refine ab ?_
 obtain ⟨v1,hv1,h⟩:=zn h
 refine yx hn 2 ?_
 refine yk [] [5,6] ?_
 refine yt (7,.cloB 119 [.box 9 [vs v1.1],.box 9 [vs v1.2.1],.box 3 [vi v1.2.2]]) 0 ⟨gL _ _ 93 _ _ rfl call93 rfl rfl (pd s sep 0 _ hv1) rfl⟩ ?_
 refine ya 0 ?_
 refine aV [4] ?_
 refine ak ?_
 obtain rfl:=zi h
 exact al hio rfl (.tmp _ _ .nil) rfl rfl
theorem gm (mx:Int×Nat×Value) (s:Mf) (r:(Int×Int)) (h:Sh.cB s=some r):iq Tryz.prog (GL mx) 142 [.v (.string s)] (.tup [.v (.int .i32 r.1),.v (.int .i64 r.2)]):=by
 unfold Sh.cB at h
 refine yG 117 func142 fun g0 hn hio => ?_
 refine aG hn 2 [0,117] ?_
 refine aG hn 3 [0,117,4] ?_
 refine ab ?_
 refine aG hn 2 [0,117,4,16] ?_
 refine zc h rfl (fun h => ?_) (fun h => ?_)
 refine aG hn 2 [117,2,3] ?_
 refine ak ?_
 refine ah [1,2] (by kernel_rfl) (es':=[(_,_),(_,_)]) rfl ?_
 refine ag ?_
 obtain rfl:=zi h
 exact al hio rfl (.tmp _ _ (.tmp _ _ .nil)) rfl rfl
 refine am ?_
 refine ae (ab ?_)
 obtain ⟨v2,hv2,h⟩:=zn h
 refine yx hn 1 ?_
 refine ys 1 ⟨lh hv2⟩ ?_
 refine aV [0,117,4,5] ?_
 refine ab ?_
 obtain ⟨v3,hv3,v4,hv4,h⟩:=dM h
 refine yx hn 1 ?_
 refine yS (.v (.pointer (some ⟨1,(0+v3 * 1),none⟩))) 0 ⟨nL _ _ _ _ 256 1 0 _ 1 _ underlying184 lJ rfl rfl (bA hv3).1 (bA hv3).2⟩ ?_
 refine yS (.v (.int .u8 v4)) 1 ⟨mI _ _ 117 1 _ _ _ underlying5 rfl rfl rfl (Be mx) (cY hv4)⟩ ?_
 refine aV [0,117,4,5,6] ?_
 refine ab ?_
 refine aG hn 2 [0,117,4,5,6,23] ?_
 refine zc h rfl (fun h => ?_) (fun h => ?_)
 refine ab ?_
 obtain ⟨v6,hv6,v7,hv7,v8,hv8,h⟩:=ng h
 refine yx hn 1 ?_
 refine ys 0 ⟨lv hv6⟩ ?_
 refine ys 0 ⟨lB (nA hv7)⟩ ?_
 refine ys 1 ⟨lB (kT hv8)⟩ ?_
 refine aV [0,117,7] ?_
 refine ab ?_
 obtain ⟨v9,hv9,v10,hv10,v11,hv11,v12,hv12,h⟩:=jX h
 obtain ⟨v13,hv13,h⟩:=zn h
 refine yx hn 1 ?_
 refine ys 0 ⟨lh hv9⟩ ?_
 refine ys 1 ⟨lv hv10⟩ ?_
 refine ys 1 ⟨lb hv11⟩ ?_
 refine ys 0 ⟨lb hv12⟩ ?_
 refine ys 2 ⟨lb hv13⟩ ?_
 refine aV [117,2,3] ?_
 refine ak ?_
 refine ah [1,2] (by kernel_rfl) (es':=[(_,_),(_,_)]) rfl ?_
 refine ag ?_
 obtain rfl:=zi h
 exact al hio rfl (.tmp _ _ (.tmp _ _ .nil)) rfl rfl
 cases h
theorem gY (mx:Int×Nat×Value) (s:Mf) (r:(Int×Int)) (h:Sh.de s=some r):iq Tryz.prog (GL mx) 120 [.v (.string s)] (.tup [.v (.int .i32 r.1),.v (.int .i64 r.2)]):=by
 unfold Sh.de at h
 refine yG 19 func120 fun g0 hn hio => ?_
 refine aG hn 2 [0,19] ?_
 refine ab (ab ?_)
 refine aq h (fun (s2:Bool)=>[(0,vs s),(19,.glob (GL mx)),(10,vb s2)]) ?_ ?_
 rintro s2 h
 refine ae ?_
 refine zc h rfl (fun h => ?_) (fun h => ?_)
 refine ab ?_
 obtain ⟨v7,hv7,v8,hv8,h⟩:=dM h
 refine yx hn 1 ?_
 refine ys 0 ⟨lh hv7⟩ ?_
 refine ys 2 ⟨lv hv8⟩ ?_
 refine aV [19,2,3] ?_
 refine ak ?_
 refine ah [1,2] (by kernel_rfl) (es':=[(_,_),(_,_)]) rfl ?_
 refine ag ?_
 obtain rfl:=zi h
 exact al hio rfl (.tmp _ _ (.tmp _ _ .nil)) rfl rfl
 obtain ⟨v9,hv9,h⟩:=zn h
 refine yx hn 1 ?_
 refine ys 0 ⟨lg call142 (gm _ _ _ hv9) 19⟩ ?_
 refine ym 4 ?_
 refine aV [19,2,3] ?_
 refine ak ?_
 refine ah [1,2] (by kernel_rfl) (es':=[(_,_),(_,_)]) rfl ?_
 obtain rfl:=zi h
 exact al hio rfl (.tmp _ _ (.tmp _ _ .nil)) rfl rfl
 intro u3 h hl4 hr5
 refine ai h (fun hg1_2 h => ?_) (fun hg1_2 h => ?_)
 obtain ⟨v1,hv1,h⟩:=zn h
 refine yx hn 3 ?_
 refine yd hg1_2 1 ?_
 refine ys 2 ⟨lh hv1⟩ ?_
 refine ye [0,19,10] ?_
 exact hl4 _ (zi h).symm
 refine yx hn 3 ?_
 refine yd hg1_2 4 ?_
 refine ye [0,19,10] ?_
 exact hl4 _ (zi h).symm
theorem mg (s sub:Mf) (r:Int) (h:Sh.cC s sub=some r):bF Tryz.prog 121 [.v (.string s),.v (.string sub)] (.v (.int .i64 r)):=la Tryz.strings_Index_one s sub r h
theorem fP (mx:Int×Nat×Value) (l:Nat) {S:Type} (J:S→lE) (Y:Mf→S→Option (S×Bool)) (hY:qf Tryz.prog l (fun x => .v (.string x)) Y J) (c0:Mf) (c1:Mf) (c2:Int) (st r:S) (h:Sh.bS Y c0 c1 c2 st=some r):Jv Tryz.prog (GL mx) 119 l [.box 9 [.v (.string c0)],.box 9 [.v (.string c1)],.box 3 [.v (.int .i64 c2)]] (J st) (J r):=by
 unfold Sh.bS at h
 refine yI 52 func119 fun g0 hn hio => ?_
 refine ab ?_
 refine aG hn 3 [0,1,2,3,52,53,11] ?_
 refine zc h rfl (fun h => ?_) (fun h => ?_)
 refine ab ?_
 refine jz [0,2,4,5] (by kernel_rfl) (es':=[(_,_),(_,_),(_,_),(_,_)]) rfl ?_
 refine aS h (fun ((s12,s13):Mf×S)=>[(0,.v (.func (.yield l) #[] #[])),(2,.box 9 [vs s12]),(52,.glob (GL mx)),(53,.inv (J s13))]) (fun (s16:S)=>[(52,.glob (GL mx)),(53,.inv (J s16))]) ?_ ?_
 rintro s16 h
 refine ae (ak ?_)
 refine ah [1] (by kernel_rfl) (es':=[(53,.inv (J s16))]) rfl ?_
 refine ag ?_
 obtain rfl:=zi h
 exact sj hio rfl rfl rfl
 rintro u17 hl18 hr19 ⟨s12,s13⟩ rr22 h ho20
 refine ab ?_
 refine aG hn 3 [0,2,52,53,14] ?_
 refine zc h rfl (fun h => ?_) (fun h => ?_)
 refine am (ae (aC (ab ?_)))
 obtain ⟨v3,hv3,h⟩:=zn h
 refine yx hn 1 ?_
 refine ys 0 ⟨lg call120 (gY _ _ _ hv3) 52⟩ ?_
 refine ym 4 ?_
 refine aV [0,2,52,53,6] ?_
 refine ab (ab ?_)
 obtain ⟨v4,hv4,v5,hv5,h⟩:=dM h
 refine yx hn 3 ?_
 refine yS (vs v4) 0 ⟨cM _ _ _ 0 v3.2 _ underlying9 rfl rfl ⟨_,rfl⟩ hv4⟩ ?_
 refine yk [53] [23,20] ?_
 refine mS (53,.inv (J v5.1)) (24,vb v5.2) 1 ⟨pV _ _ 53 l v4 s13 v5 hY hv5 rfl rfl rfl⟩ ?_
 refine aV [0,2,52,53,6,25] ?_
 refine zc h rfl (fun h => ?_) (fun h => ?_)
 refine ak ?_
 refine ah [3] (by kernel_rfl) (es':=[(53,.inv (J v5.1))]) rfl ?_
 refine ag (aF (ag (aF (ag (ag ?_)))))
 have h:=hr19 _ (ho20 _ (zi h).symm).symm
 obtain rfl:=zi h
 exact sj hio rfl rfl rfl
 refine am (ae ?_)
 obtain ⟨v7,hv7,h⟩:=zn h
 refine yx hn 2 ?_
 refine yS (vs v7) 1 ⟨cM _ _ _ v3.2 (s12.size:Int) _ underlying9 rfl ⟨_,rfl⟩ rfl hv7⟩ ?_
 refine ye [0,2,52,53] ?_
 refine aI ?_
 exact bb _ (zi h).symm rfl
 refine ba (ap (ap (aZ ?_)))
 refine ah [2,3] (by kernel_rfl) (es':=[(_,_),(_,_)]) rfl ?_
 exact hl18 _ (ho20 _ (zi h).symm).symm
 refine am ?_
 refine ae (ab ?_)
 refine jz [0,1,2,3,4,5] (by kernel_rfl) (es':=[(_,_),(_,_),(_,_),(_,_),(_,_),(_,_)]) rfl ?_
 refine aS h (fun ((s37,s38):Mf×S)=>[(0,.v (.func (.yield l) #[] #[])),(1,.box 9 [vs c0]),(2,.box 9 [vs s37]),(3,.box 3 [vi c2]),(52,.glob (GL mx)),(53,.inv (J s38))]) (fun ((s41,s42):Mf×S)=>[(0,.v (.func (.yield l) #[] #[])),(2,.box 9 [vs s41]),(52,.glob (GL mx)),(53,.inv (J s42))]) ?_ ?_
 rintro ⟨s41,s42⟩ h
 refine ae ?_
 obtain ⟨v51,hv51,h⟩:=zn h
 refine yx hn 2 ?_
 refine yk [53] [50,49] ?_
 refine mS (53,.inv (J v51.1)) (51,vb v51.2) 0 ⟨pV _ _ 53 l s41 s42 v51 hY hv51 rfl rfl rfl⟩ ?_
 refine ye [52,53] ?_
 refine ah [1] (by kernel_rfl) (es':=[(53,.inv (J v51.1))]) rfl ?_
 obtain rfl:=zi h
 exact Eg hio rfl rfl rfl
 rintro u43 hl44 hr45 ⟨s37,s38⟩ rr48 h ho46
 refine aC (ab ?_)
 obtain ⟨v25,hv25,h⟩:=zn h
 refine yx hn 2 ?_
 refine ys 1 ⟨lk call121 (mg _ _ _ hv25)⟩ ?_
 refine aV [0,1,2,3,52,53,7] ?_
 refine ab ?_
 refine aG hn 2 [0,1,2,3,52,53,7,33] ?_
 refine zc h rfl (fun h => ?_) (fun h => ?_)
 refine ba (ap ?_)
 refine xH (by decide) ?_
 refine ap (aZ ?_)
 refine ah [0,2,4,5] (by kernel_rfl) (es':=[(_,_),(_,_),(_,_),(_,_)]) rfl ?_
 exact hl44 _ (ho46 _ (zi h).symm).symm
 refine am ?_
 refine ae (ab ?_)
 obtain ⟨v27,hv27,v28,hv28,h⟩:=dM h
 refine yx hn 3 ?_
 refine ys 0 ⟨lb hv27⟩ ?_
 refine yS (vs v28) 1 ⟨cM _ _ _ 0 v27 _ underlying9 rfl rfl ⟨_,rfl⟩ hv28⟩ ?_
 refine aV [0,1,2,3,52,53,7,8] ?_
 refine ab (ab ?_)
 obtain ⟨v29,hv29,h⟩:=zn h
 refine yx hn 2 ?_
 refine yk [53] [40,39] ?_
 refine mS (53,.inv (J v29.1)) (41,vb v29.2) 1 ⟨pV _ _ 53 l v28 s38 v29 hY hv29 rfl rfl rfl⟩ ?_
 refine aV [0,1,2,3,52,53,7,42] ?_
 refine zc h rfl (fun h => ?_) (fun h => ?_)
 refine ak ?_
 refine ah [5] (by kernel_rfl) (es':=[(53,.inv (J v29.1))]) rfl ?_
 refine ag (aF (ag (aF (ag ?_))))
 have h:=hr45 _ (ho46 _ (zi h).symm).symm
 obtain rfl:=zi h
 exact sj hio rfl rfl rfl
 refine am (ae ?_)
 obtain ⟨v31,hv31,v32,hv32,h⟩:=dM h
 refine yx hn 4 ?_
 refine ys 0 ⟨lb hv31⟩ ?_
 refine yS (vs v32) 1 ⟨cM _ _ _ v31 (s37.size:Int) _ underlying9 rfl ⟨_,rfl⟩ rfl hv32⟩ ?_
 refine ye [0,1,2,3,52,53] ?_
 refine aI ?_
 exact bb _ (zi h).symm rfl
theorem eK (c:Int) (r:Bool) (h:Sh.fW c=some r):bF Tryz.prog 83 [.v (.int .u8 c)] (.v (.bool r)):=by
 unfold Sh.fW at h
 refine yO 25 func83 fun g0 hn hio => ?_
 refine aG hn 1 [0] ?_
 refine ab ?_
 refine aq h (fun (s1:Bool)=>[(2,vb s1)]) ?_ ?_
 rintro s1 h
 refine ae (ak ?_)
 obtain rfl:=zi h
 exact al hio rfl (.tmp _ _ .nil) rfl rfl
 intro u2 h hl3 hr4
 refine ai h (fun hg1_2 h => ?_) (fun hg1_2 h => ?_)
 refine ai h (fun hg1_6 h => ?_) (fun hg1_6 h => ?_)
 refine yx hn 3 ?_
 refine yd hg1_2 4 ?_
 refine yd hg1_6 16 ?_
 refine ye [2] ?_
 exact hl3 _ (zi h).symm
 refine ai h (fun hg1_9 h => ?_) (fun hg1_9 h => ?_)
 refine ai h (fun hg1_14 h => ?_) (fun hg1_14 h => ?_)
 refine yx hn 3 ?_
 refine yd hg1_2 4 ?_
 refine yd hg1_6 3 ?_
 refine yd hg1_9 5 ?_
 refine yd hg1_14 8 ?_
 refine ye [2] ?_
 exact hl3 _ (zi h).symm
 refine ai h (fun hg1_17 h => ?_) (fun hg1_17 h => ?_)
 refine yx hn 3 ?_
 refine yd hg1_2 4 ?_
 refine yd hg1_6 3 ?_
 refine yd hg1_9 5 ?_
 refine yd hg1_14 3 ?_
 refine yd hg1_17 5 ?_
 refine ye [2] ?_
 exact hl3 _ (zi h).symm
 refine yx hn 3 ?_
 refine yd hg1_2 4 ?_
 refine yd hg1_6 3 ?_
 refine yd hg1_9 5 ?_
 refine yd hg1_14 3 ?_
 refine yd hg1_17 5 ?_
 refine ye [2] ?_
 exact hl3 _ (zi h).symm
 refine ai h (fun hg1_17 h => ?_) (fun hg1_17 h => ?_)
 refine yx hn 3 ?_
 refine yd hg1_2 4 ?_
 refine yd hg1_6 3 ?_
 refine yd hg1_9 8 ?_
 refine yd hg1_17 5 ?_
 refine ye [2] ?_
 exact hl3 _ (zi h).symm
 refine yx hn 3 ?_
 refine yd hg1_2 4 ?_
 refine yd hg1_6 3 ?_
 refine yd hg1_9 8 ?_
 refine yd hg1_17 5 ?_
 refine ye [2] ?_
 exact hl3 _ (zi h).symm
 refine ai h (fun hg1_9 h => ?_) (fun hg1_9 h => ?_)
 refine ai h (fun hg1_14 h => ?_) (fun hg1_14 h => ?_)
 refine yx hn 3 ?_
 refine yd hg1_2 7 ?_
 refine yd hg1_9 5 ?_
 refine yd hg1_14 8 ?_
 refine ye [2] ?_
 exact hl3 _ (zi h).symm
 refine ai h (fun hg1_17 h => ?_) (fun hg1_17 h => ?_)
 refine yx hn 3 ?_
 refine yd hg1_2 7 ?_
 refine yd hg1_9 5 ?_
 refine yd hg1_14 3 ?_
 refine yd hg1_17 5 ?_
 refine ye [2] ?_
 exact hl3 _ (zi h).symm
 refine yx hn 3 ?_
 refine yd hg1_2 7 ?_
 refine yd hg1_9 5 ?_
 refine yd hg1_14 3 ?_
 refine yd hg1_17 5 ?_
 refine ye [2] ?_
 exact hl3 _ (zi h).symm
 refine ai h (fun hg1_17 h => ?_) (fun hg1_17 h => ?_)
 refine yx hn 3 ?_
 refine yd hg1_2 7 ?_
 refine yd hg1_9 8 ?_
 refine yd hg1_17 5 ?_
 refine ye [2] ?_
 exact hl3 _ (zi h).symm
 refine yx hn 3 ?_
 refine yd hg1_2 7 ?_
 refine yd hg1_9 8 ?_
 refine yd hg1_17 5 ?_
 refine ye [2] ?_
 exact hl3 _ (zi h).symm
theorem rY (c:Int) (r:Bool) (h:Sh.gA c=some r):bF Tryz.prog 82 [.v (.int .u8 c)] (.v (.bool r)):=by
 unfold Sh.gA at h
 refine yO 9 func82 fun g0 hn hio => ?_
 refine aG hn 1 [0] ?_
 refine ab ?_
 refine aq h (fun (s2:Bool)=>[(2,vb s2)]) ?_ ?_
 rintro s2 h
 refine ae (ak ?_)
 obtain rfl:=zi h
 exact al hio rfl (.tmp _ _ .nil) rfl rfl
 intro u3 h hl4 hr5
 obtain ⟨v1,hv1,h⟩:=zn h
 refine ai h (fun hg1_2 h => ?_) (fun hg1_2 h => ?_)
 refine yx hn 1 ?_
 refine ys 1 ⟨lk call83 (eK _ _ hv1)⟩ ?_
 refine yd hg1_2 4 ?_
 refine ye [2] ?_
 exact hl4 _ (zi h).symm
 refine yx hn 1 ?_
 refine ys 1 ⟨lk call83 (eK _ _ hv1)⟩ ?_
 refine yd hg1_2 4 ?_
 refine ye [2] ?_
 exact hl4 _ (zi h).symm
theorem ki (s:Mf) (r:Bool) (h:Sh.eR s=some r):bF Tryz.prog 81 [.v (.string s),.v (.func (.func 82) #[] #[])] (.v (.bool r)):=by
 unfold Sh.eR at h
 refine yO 18 func81 fun g0 hn hio => ?_
 refine aG hn 1 [0,1] ?_
 refine ab ?_
 refine aG hn 3 [0,1,7,8] ?_
 refine aS h (fun (s9:Int)=>[(0,vs s),(1,.v (.func (.func 82) #[] #[])),(7,vi (s.size:Int)),(8,vi s9)]) (fun (():Unit)=>[]) ?_ ?_
 rintro ⟨⟩ h
 refine ae ?_
 refine aG hn 1 [4] ?_
 refine ak ?_
 obtain rfl:=zi h
 exact al hio rfl (.tmp _ _ .nil) rfl rfl
 rintro u12 hl13 hr14 s9 rr17 h ho15
 refine aG hn 1 [0,1,7,8,9] ?_
 refine ab ?_
 refine zc h rfl (fun h => ?_) (fun h => ?_)
 refine am ?_
 refine ae (ab ?_)
 refine aC ?_
 refine aG hn 2 [0,1,7,8,5] ?_
 refine ab ?_
 obtain ⟨v2,hv2,v3,hv3,h⟩:=dM h
 refine yx hn 3 ?_
 refine ys 0 ⟨lh hv2⟩ ?_
 refine ys 1 ⟨lk call82 (rY _ _ hv3)⟩ ?_
 refine aV [0,1,7,8,16] ?_
 refine zc h rfl (fun h => ?_) (fun h => ?_)
 refine aG hn 1 [4] ?_
 refine ak (aF (ag (ag (aF (ag ?_)))))
 have h:=hr14 _ (ho15 _ (zi h).symm).symm
 obtain rfl:=zi h
 exact al hio rfl (.tmp _ _ .nil) rfl rfl
 refine am (aI (ae ?_))
 obtain ⟨v5,hv5,h⟩:=zn h
 refine yx hn 0 ?_
 refine ys 0 ⟨lb hv5⟩ ?_
 refine yw [8] 1 ?_
 refine ye [0,1,7,8] ?_
 exact bb _ (zi h).symm rfl
 refine ba (ap (ap (aZ ?_)))
 refine ah [] (by kernel_rfl) (es':=[]) rfl ?_
 exact hl13 _ (ho15 _ (zi h).symm).symm
theorem uH (s:Mf) (r:Bool) (h:Sh.kS s=some r):bF Tryz.prog 70 [.v (.string s)] (.v (.bool r)):=by
 unfold Sh.kS at h
 refine yO 27 func70 fun g0 hn hio => ?_
 refine aG hn 1 [0] ?_
 refine ab ?_
 refine aq h (fun (s5:Bool)=>[(2,vb s5)]) ?_ ?_
 rintro s5 h
 refine ae (ak ?_)
 obtain rfl:=zi h
 exact al hio rfl (.tmp _ _ .nil) rfl rfl
 intro u6 h hl7 hr8
 refine ai h (fun hg1_2 h => ?_) (fun hg1_2 h => ?_)
 refine ai h (fun hg1_7 h => ?_) (fun hg1_7 h => ?_)
 obtain ⟨v1,hv1,h⟩:=zn h
 refine ai h (fun hg1_12 h => ?_) (fun hg1_12 h => ?_)
 obtain ⟨v2,hv2,v3,hv3,h⟩:=dM h
 refine ai h (fun hg1_20 h => ?_) (fun hg1_20 h => ?_)
 obtain ⟨v4,hv4,h⟩:=zn h
 refine yx hn 3 ?_
 refine yd hg1_2 5 ?_
 refine yd hg1_7 1 ?_
 refine ys 3 ⟨lh hv1⟩ ?_
 refine yd hg1_12 3 ?_
 refine ys 0 ⟨lb hv2⟩ ?_
 refine ys 3 ⟨lh hv3⟩ ?_
 refine yd hg1_20 1 ?_
 refine ys 2 ⟨lk call81 (ki _ _ hv4)⟩ ?_
 refine ye [2] ?_
 exact hl7 _ (zi h).symm
 refine yx hn 3 ?_
 refine yd hg1_2 5 ?_
 refine yd hg1_7 1 ?_
 refine ys 3 ⟨lh hv1⟩ ?_
 refine yd hg1_12 3 ?_
 refine ys 0 ⟨lb hv2⟩ ?_
 refine ys 3 ⟨lh hv3⟩ ?_
 refine yd hg1_20 4 ?_
 refine ye [2] ?_
 exact hl7 _ (zi h).symm
 refine yx hn 3 ?_
 refine yd hg1_2 5 ?_
 refine yd hg1_7 1 ?_
 refine ys 3 ⟨lh hv1⟩ ?_
 refine yd hg1_12 12 ?_
 refine ye [2] ?_
 exact hl7 _ (zi h).symm
 refine yx hn 3 ?_
 refine yd hg1_2 5 ?_
 refine yd hg1_7 17 ?_
 refine ye [2] ?_
 exact hl7 _ (zi h).symm
 refine yx hn 3 ?_
 refine yd hg1_2 22 ?_
 refine ye [2] ?_
 exact hl7 _ (zi h).symm
theorem jY (mx:Int×Nat×Value) (s:Mf) (r:Bool) (h:Sh.ek s=some r):iq Tryz.prog (GL mx) 69 [.v (.string s),.v (.func (.func 70) #[] #[])] (.v (.bool r)):=by
 unfold Sh.ek at h
 refine yG 13 func69 fun g0 hn hio => ?_
 refine gH hn 1 ?_
 refine yS (.box 4 [vb false]) 0 ⟨oA (aT _ _ JB)⟩ ?_
 refine aV [0,13,3,4] ?_
 refine ab (ab ?_)
 obtain ⟨v1,hv1,h⟩:=zn h
 refine yx hn 1 ?_
 refine yk [] [6] ?_
 refine yt (7,.cloB 119 [.box 9 [vs v1.1],.box 9 [vs v1.2.1],.box 3 [vi v1.2.2]]) 0 ⟨gL _ _ 80 _ _ rfl call80 rfl rfl (gG s (⟨#[46]⟩:Mf) _ hv1) rfl⟩ ?_
 refine aV [13,3,4,7] ?_
 refine aC ?_
 refine jz [3,0,1,2] (by kernel_rfl) (es':=[(7,.cloB 119 [.box 9 [vs v1.1],.box 9 [vs v1.2.1],.box 3 [vi v1.2.2]]),(13,.glob (GL mx)),(3,.box 65 [.v (.func (.func 70) #[] #[])]),(4,.box 4 [vb false])]) rfl ?_
 refine iC h 119 7 8 14 _ [13,3,4] call119 (fun (():Unit)=>[(13,.glob (GL mx)),(3,.box 65 [.v (.func (.func 70) #[] #[])]),(4,.box 4 [.v (.bool false)])]) (fun (():Unit)=>[(13,.glob (GL mx)),(3,.box 65 [.v (.func (.func 70) #[] #[])]),(4,.box 4 [.v (.bool false)])]) (fun l J Y hY t t' h=>fP mx l J Y hY v1.1 v1.2.1 v1.2.2 t t' h) hn rfl (fun _=>rfl) (fun _=>rfl) (fun _=>rfl) rfl rfl (fun _=>⟨rfl,rfl⟩) rfl (iA 13 rfl) ?_ ?_ ?_
 rintro kk g0 hn hio x ⟨⟩ u h
 refine rC (es':=[(8,vs x),(13,.glob (GL mx)),(3,.box 65 [.v (.func (.func 70) #[] #[])]),(4,.box 4 [vb false]),(13,.v (kk.tm.getD 13 undef)),(3,.v (kk.tm.getD 3 undef)),(4,.v (kk.tm.getD 4 undef)),(14,.inv kk.ready)]) rfl ?_
 refine yy hn 1 [13,3,4,14,5,13,3,4] ?_
 refine ah [0,1,2,4,5,6,7,3] (by kernel_rfl) (es':=[(13,.glob (GL mx)),(3,.box 65 [.v (.func (.func 70) #[] #[])]),(4,.box 4 [vb false]),(5,vs x),(13,.v (kk.tm.getD 13 undef)),(3,.v (kk.tm.getD 3 undef)),(4,.v (kk.tm.getD 4 undef)),(14,.inv kk.ready)]) rfl ?_
 refine jQ (es:=[(13,.glob (GL mx)),(3,.box 65 [.v (.func (.func 70) #[] #[])]),(4,.box 4 [vb false]),(5,vs x),(13,.v (kk.tm.getD 13 undef)),(3,.v (kk.tm.getD 3 undef)),(4,.v (kk.tm.getD 4 undef))]) 14 rfl ?_
 refine aC (ab ?_)
 obtain ⟨v2,hv2,h⟩:=zn h
 refine yx hn 2 ?_
 refine ys 1 ⟨lk call70 (uH _ _ hv2)⟩ ?_
 refine aV [13,3,4,14,12,13,3,4] ?_
 refine zc h rfl (fun h => ?_) (fun h => ?_)
 refine aG hn 1 [13,3,4,14,13,3,4] ?_
 refine ak (aF ?_)
 refine ah [0,1,2,4,5,6,3] (by kernel_rfl) (es':=[(_,_),(_,_),(_,_),(_,_),(_,_),(_,_),(_,_)]) rfl ?_
 obtain rfl:=zi h
 exact qp 14 [13,3,4] _ rfl rfl (by kernel_rfl)
 refine am (aI ?_)
 refine ah [0,1,2,5,6,7,3] (by kernel_rfl) (es':=[(_,_),(_,_),(_,_),(_,_),(_,_),(_,_),(_,_)]) rfl ?_
 obtain rfl:=zi h
 exact jT 14 [13,3,4] _ rfl rfl (by kernel_rfl)
 rintro D ⟨⟩ h
 refine aI (ae ?_)
 refine aG hn 1 [13,4] ?_
 refine ak ?_
 refine ah [1] (by kernel_rfl) (es':=[(_,_)]) rfl ?_
 obtain rfl:=zi h
 exact al hio rfl (.cell1 _ _ _ _ underlying4 rfl .nil) rfl rfl
 rintro D ⟨⟩ h
 refine ah [2] (by kernel_rfl) (es':=[(_,_)]) rfl ?_
 refine aF (ag ?_)
 obtain rfl:=zi h
 exact al hio rfl (.cell1 _ _ _ _ underlying4 rfl .nil) rfl rfl
theorem cb (mx:Int×Nat×Value) (s:Mf) (r:Bool) (h:Sh.cj s=some r):iq Tryz.prog (GL mx) 55 [.v (.string s)] (.v (.bool r)):=by
 unfold Sh.cj at h
 refine yG 10 func55 fun g0 hn hio => ?_
 refine aG hn 1 [0,10] ?_
 refine ab ?_
 refine aq h (fun (s2:Bool)=>[(10,.glob (GL mx)),(2,vb s2)]) ?_ ?_
 rintro s2 h
 refine ae (ak ?_)
 refine ah [1] (by kernel_rfl) (es':=[(_,_)]) rfl ?_
 obtain rfl:=zi h
 exact al hio rfl (.tmp _ _ .nil) rfl rfl
 intro u3 h hl4 hr5
 refine ai h (fun hg1_3 h => ?_) (fun hg1_3 h => ?_)
 obtain ⟨v1,hv1,h⟩:=zn h
 refine yx hn 4 ?_
 refine yd hg1_3 1 ?_
 refine ys 2 ⟨lg call69 (jY _ _ _ hv1) 10⟩ ?_
 refine ye [10,2] ?_
 exact hl4 _ (zi h).symm
 refine yx hn 4 ?_
 refine yd hg1_3 4 ?_
 refine ye [10,2] ?_
 exact hl4 _ (zi h).symm
theorem eA (s:Mf) (r:Mf) (h:Sh.eo s=some r):bF Tryz.prog 71 [.v (.string s)] (.v (.string r)):=by
 unfold Sh.eo at h
 refine yO 29 func71 fun g0 hn hio => ?_
 refine aG hn 1 [0] ?_
 refine ab ?_
 obtain ⟨v1,hv1,h⟩:=zn h
 refine yx hn 1 ?_
 refine ys 0 ⟨lU hv1⟩ ?_
 refine ya 0 ?_
 refine aV [3] ?_
 refine ab ?_
 refine gH hn 1 ?_
 refine yS (vi (v1.length:Int)) 1 ⟨lO _ _ _ underlying28 rfl (List.length_map _)⟩ ?_
 refine aV [3,8,9,10] ?_
 refine aS h (fun ((s40,s41):(List Int)×Int)=>[(3,.mkr 5 (map (int .u8) s40)),(8,.same (.slot 3)),(9,vi (v1.length:Int)),(10,vi s41)]) (fun (s57:(List Int))=>[(3,.mkr 5 (map (int .u8) s57))]) ?_ ?_
 rintro s57 h
 refine ae (ab ?_)
 obtain ⟨v79,hv79,h⟩:=zn h
 refine yx hn 0 ?_
 refine ym 0 ?_
 refine ys 1 ⟨lM hv79⟩ ?_
 refine aV [2] ?_
 refine ak ?_
 obtain rfl:=zi h
 exact al hio rfl (.tmp _ _ .nil) rfl rfl
 rintro u58 hl59 hr60 ⟨s40,s41⟩ rr63 h ho61
 refine aG hn 1 [3,8,9,10,11] ?_
 refine ab ?_
 refine zc h rfl (fun h => ?_) (fun h => ?_)
 refine am ?_
 refine ae (ab ?_)
 refine aq h (fun (s70:(List Int))=>[(3,.mkr 5 (map (int .u8) s70)),(8,.same (.slot 3)),(9,vi (v1.length:Int)),(10,vi s41)]) ?_ ?_
 rintro s70 h
 refine ae ?_
 obtain ⟨v22,hv22,h⟩:=zn h
 refine yx hn 0 ?_
 refine ys 0 ⟨lb hv22⟩ ?_
 refine yw [10] 1 ?_
 refine ye [3,8,9,10] ?_
 exact bb _ (zi h).symm rfl
 intro u71 h hl72 hr73
 refine aC (ab ?_)
 obtain ⟨v3,hv3,v4,hv4,h⟩:=dM h
 refine yx hn 1 ?_
 refine yS (.eref (.slot 3) (v3 * 1)) 0 ⟨xe _ _ _ _ _ _ _ underlying28 lJ rfl rfl rfl (bA hv3).1 (CF (bA hv3).2) rfl⟩ ?_
 refine yS (.v (.int .u8 v4)) 2 ⟨yH _ _ _ _ _ _ underlying5 rfl rfl rfl (zY hv4)⟩ ?_
 refine aV [3,8,9,10,4,5] ?_
 refine ab ?_
 refine aq h (fun (s74:Bool)=>[(3,.mkr 5 (map (int .u8) s40)),(8,.same (.slot 3)),(9,vi (v1.length:Int)),(10,vi s41),(4,vi s41),(5,.v (.int .u8 v4)),(20,vb s74)]) ?_ ?_
 rintro s74 h
 refine ae ?_
 refine zc h rfl (fun h => ?_) (fun h => ?_)
 obtain ⟨v10,hv10,v11,hv11,v12,hv12,h⟩:=ng h
 refine yx hn 3 ?_
 refine ys 0 ⟨lb hv10⟩ ?_
 refine yS (.eref (.slot 3) (v11 * 1)) 0 ⟨xe _ _ _ _ _ _ _ underlying28 lJ rfl rfl rfl (bA hv11).1 (CF (bA hv11).2) rfl⟩ ?_
 refine yk [3] [25,24] ?_
 refine yt (3,.mkr 5 (map (int .u8) v12)) 0 ⟨xT _ _ _ _ _ _ _ lJ rfl rfl rfl (IK (bA hv11).2) (HZ (f:=int .u8) (Option.some.inj hv12))⟩ ?_
 refine ye [3,8,9,10] ?_
 refine aI ?_
 exact hl72 _ (zi h).symm
 refine am (aI ?_)
 refine ah [0,1,2,3] (by kernel_rfl) (es':=[(_,_),(_,_),(_,_),(_,_)]) rfl ?_
 exact hl72 _ (zi h).symm
 intro u75 h hl76 hr77
 refine ai h (fun hg5_2 h => ?_) (fun hg5_2 h => ?_)
 refine yx hn 3 ?_
 refine yd hg5_2 3 ?_
 refine ye [3,8,9,10,4,5,20] ?_
 exact hl76 _ (zi h).symm
 refine yx hn 3 ?_
 refine yd hg5_2 3 ?_
 refine ye [3,8,9,10,4,5,20] ?_
 exact hl76 _ (zi h).symm
 refine ba (ap (ap (aZ ?_)))
 refine ah [0] (by kernel_rfl) (es':=[(_,_)]) rfl ?_
 exact hl59 _ (ho61 _ (zi h).symm).symm
theorem ld (a:Mf) (b:Mf) (r:Bool) (h:Sh.je a b=some r):bF Tryz.prog 56 [.v (.string a),.v (.string b)] (.v (.bool r)):=by
 unfold Sh.je at h
 refine yO 10 func56 fun g0 hn hio => ?_
 refine aG hn 1 [0,1] ?_
 refine ab ?_
 obtain ⟨v1,hv1,v2,hv2,h⟩:=dM h
 refine yx hn 1 ?_
 refine ys 1 ⟨lk call71 (eA _ _ hv1)⟩ ?_
 refine ys 2 ⟨lk call71 (eA _ _ hv2)⟩ ?_
 refine aV [4] ?_
 refine ak ?_
 obtain rfl:=zi h
 exact al hio rfl (.tmp _ _ .nil) rfl rfl
end Go.Proofs.YtjnnkhmhjcjhdaaGreatDoor
