/-
 The model's runs are what is told in Lean.
-/
import Derived.Test.YtjnnkhmhjcjhdaaGreatDoorShelf
import Derived.Test.YtjnnkhmhjcjhdaaGreatDoorIdx
import Derived.Test.YtjnnkhmhjcjhdaaGreatDoorSh
set_option linter.unusedVariables false
set_option linter.unusedSimpArgs false
set_option maxHeartbeats 1000000
namespace Go.Proofs.YtjnnkhmhjcjhdaaGreatDoor
open Go.Abs Go.Abs.Sh Tryz
open List (map flatten)
open Value (int)
def GL (mx:Int×Nat×Value):List (Nat×List Value):=[(0,[.int .i64 mx.1]),(1,(List.map (Value.int .u8) fe)),(2,(List.map (Value.int .u8) gX)),(3,[.iface mx.2.1 mx.2.2]),(5,(List.map (Value.int .u32) cM)),(6,(List.map (Value.int .i64) gf)),(7,(List.map (Value.int .u64) eT))]
theorem sb (mx:Int×Nat×Value):(0,([.int .i64 mx.1]:List Value))∈GL mx := .head _
theorem vC (mx:Int×Nat×Value):(1,((List.map (Value.int .u8) fe):List Value))∈GL mx := .tail _ (.head _)
theorem yJ (mx:Int×Nat×Value):(2,((List.map (Value.int .u8) gX):List Value))∈GL mx := .tail _ (.tail _ (.head _))
theorem zA (mx:Int×Nat×Value):(3,([.iface mx.2.1 mx.2.2]:List Value))∈GL mx := .tail _ (.tail _ (.tail _ (.head _)))
theorem yn (mx:Int×Nat×Value):(5,((List.map (Value.int .u32) cM):List Value))∈GL mx := .tail _ (.tail _ (.tail _ (.tail _ (.head _))))
theorem zm (mx:Int×Nat×Value):(6,((List.map (Value.int .i64) gf):List Value))∈GL mx := .tail _ (.tail _ (.tail _ (.tail _ (.tail _ (.head _)))))
theorem zB (mx:Int×Nat×Value):(7,((List.map (Value.int .u64) eT):List Value))∈GL mx := .tail _ (.tail _ (.tail _ (.tail _ (.tail _ (.tail _ (.head _))))))
instance iUD31:UD Tryz.prog 31 (.slice 3):=⟨Tryz.underlying31⟩
instance iUD28:UD Tryz.prog 28 (.slice 5):=⟨Tryz.underlying28⟩
theorem pW:(Tryz.prog.info? 9).map (·.size)=some 1:=by kernel_rfl
theorem Cf:(Tryz.prog.info? 9).bind (·.zero)=some (.string ByteArray.empty):=by kernel_rfl
theorem qI:(Tryz.prog.info? 30).bind (·.zero)=some (.agg #[.int .i64 0,.string ByteArray.empty,.bool false,.string ByteArray.empty,.string ByteArray.empty,.slice none 0 0,.bool false,.slice none 0 0,.string ByteArray.empty,.bool false]):=by kernel_rfl
theorem Br:∀ fs,Tryz.prog.underlying 30=some (.struct fs)→fs.toList.map (fun f=>(Tryz.prog.info? f.type).map (·.size))=([1,1,3,1,1,1,1,1]:List Nat).map some:=by
 intro fs h
 rw [Tryz.underlying30] at h
 cases h
 kernel_rfl
theorem nq:(Tryz.prog.info? 30).map (·.size)=some 10:=by kernel_rfl
instance iAG30:AA Tryz.prog 30 10:=⟨by kernel_rfl⟩
theorem Ar:(Tryz.prog.info? 3).map (·.size)=some 1:=by kernel_rfl
instance iSZ3:SZ Tryz.prog 3 1:=⟨by kernel_rfl⟩
instance iAG3:AS Tryz.prog 3:=⟨by kernel_rfl⟩
instance iUD3:UD Tryz.prog 3 (.int .i64):=⟨Tryz.underlying3⟩
instance iUD39:UD Tryz.prog 39 (.int .u64):=⟨Tryz.underlying39⟩
instance iUD49:UD Tryz.prog 49 (.slice 9):=⟨Tryz.underlying49⟩
instance iFO30_0:FO Tryz.prog 30 0 0:=⟨by kernel_rfl⟩
theorem Ce:(Tryz.prog.info? 24).bind (·.zero)=some (.agg #[.string ByteArray.empty,.string ByteArray.empty,.int .i64 0,.string ByteArray.empty,.string ByteArray.empty,.int .i64 0,.bool false]):=by kernel_rfl
theorem Da:(Tryz.prog.info? 22).bind (·.zero)=some (.agg #[.string ByteArray.empty,.string ByteArray.empty]):=by kernel_rfl
theorem DM:∀ fs,Tryz.prog.underlying 24=some (.struct fs)→fs.toList.map (fun f=>(Tryz.prog.info? f.type).map (·.size))=([2,1,1,1,1,1]:List Nat).map some:=by
 intro fs h
 rw [Tryz.underlying24] at h
 cases h
 kernel_rfl
theorem BX:(Tryz.prog.info? 24).map (·.size)=some 7:=by kernel_rfl
instance iAG24:AA Tryz.prog 24 7:=⟨by kernel_rfl⟩
theorem DO:(Tryz.prog.info? 22).map (·.size)=some 2:=by kernel_rfl
theorem CL:(Tryz.prog.info? 4).bind (·.zero)=some (.bool false):=by kernel_rfl
instance iAG9:AS Tryz.prog 9:=⟨by kernel_rfl⟩
instance iUD9:UD Tryz.prog 9 .string:=⟨Tryz.underlying9⟩
instance iUD5:UD Tryz.prog 5 (.int .u8):=⟨Tryz.underlying5⟩
instance iUD21:UD Tryz.prog 21 (.int .i32):=⟨Tryz.underlying21⟩
theorem jA:(Tryz.prog.info? 5).map (·.size)=some 1:=by kernel_rfl
instance iAG65:AS Tryz.prog 65:=⟨by kernel_rfl⟩
theorem Eg:(Tryz.prog.info? 4).map (·.size)=some 1:=by kernel_rfl
instance iAG4:AS Tryz.prog 4:=⟨by kernel_rfl⟩
instance iFO24_0:FO Tryz.prog 24 0 0:=⟨by kernel_rfl⟩
instance iFO24_1:FO Tryz.prog 24 1 2:=⟨by kernel_rfl⟩
instance iFO24_2:FO Tryz.prog 24 2 3:=⟨by kernel_rfl⟩
instance iFO24_3:FO Tryz.prog 24 3 4:=⟨by kernel_rfl⟩
instance iFO24_4:FO Tryz.prog 24 4 5:=⟨by kernel_rfl⟩
instance iFO30_6:FO Tryz.prog 30 6 8:=⟨by kernel_rfl⟩
theorem Cb:(Tryz.prog.info? 27).map (·.size)=some 1:=by kernel_rfl
theorem Cx:eH Tryz.prog 27 26 3 40:=⟨⟨Tryz.t26,.agg #[.bool false,.string ByteArray.empty,.string ByteArray.empty],Tryz.underlying27,by kernel_rfl,by kernel_rfl,by kernel_rfl,by kernel_rfl,by decide,by kernel_rfl⟩⟩
instance iFO30_3:FO Tryz.prog 30 3 5:=⟨by kernel_rfl⟩
instance iAG27:AS Tryz.prog 27:=⟨by kernel_rfl⟩
theorem jh:(Tryz.prog.info? 28).map (·.size)=some 1:=by kernel_rfl
theorem ia:eH Tryz.prog 28 5 1 1:=⟨⟨Tryz.t5,.int .u8 0,Tryz.underlying28,by kernel_rfl,by kernel_rfl,by kernel_rfl,by kernel_rfl,by decide,by kernel_rfl⟩⟩
instance iFO30_5:FO Tryz.prog 30 5 7:=⟨by kernel_rfl⟩
instance iAG28:AS Tryz.prog 28:=⟨by kernel_rfl⟩
theorem DP:∀ fs,Tryz.prog.underlying 80=some (.struct fs)→fs.toList.map (fun f=>(Tryz.prog.info? f.type).map (·.size))=([10,7,1,1,1]:List Nat).map some:=by
 intro fs h
 rw [Tryz.underlying80] at h
 cases h
 kernel_rfl
theorem DL:(Tryz.prog.info? 80).bind (·.zero)=some (.agg #[.int .i64 0,.string ByteArray.empty,.bool false,.string ByteArray.empty,.string ByteArray.empty,.slice none 0 0,.bool false,.slice none 0 0,.string ByteArray.empty,.bool false,.string ByteArray.empty,.string ByteArray.empty,.int .i64 0,.string ByteArray.empty,.string ByteArray.empty,.int .i64 0,.bool false,.int .i64 0,.int .i64 0,.slice none 0 0]):=by kernel_rfl
instance iSZ5:SZ Tryz.prog 5 1:=⟨by kernel_rfl⟩
instance iAG5:AS Tryz.prog 5:=⟨by kernel_rfl⟩
theorem rb:(Tryz.prog.info? 5).bind (·.zero)=some (.int .u8 0):=by kernel_rfl
instance iFO80_0:FO Tryz.prog 80 0 0:=⟨by kernel_rfl⟩
abbrev aa.b (x:aa):List AV:=[.v (.int .i64 x.EB.ES),.v (.string x.EB.EE),.v (.bool x.EB.EA.EM),.v (.string x.EB.EA.EI),.v (.string x.EB.EA.Ex),.fl (.own 26) 3 (List.flatten (List.map ae.enc x.EB.To)),.v (.bool x.EB.EU),.mkr 5 (List.map (Value.int .u8) x.EB.Eu),.v (.string x.EB.Ev),.v (.bool x.EB.ET),.v (.string ((x.config.Ey.getD 0 (⟨#[]⟩:Fa)))),.v (.string ((x.config.Ey.getD 1 (⟨#[]⟩:Fa)))),.v (.int .i64 x.config.Ez),.v (.string x.config.EY),.v (.string x.config.EW),.v (.int .i64 x.config.EJ),.v (.bool x.config.ED),.v (.int .i64 x.site),.v (.int .i64 x.at_),.fr (.own 55) false 12 (List.flatten (List.map au.ienc x.out))]
theorem zf:(Tryz.prog.info? 28).bind (·.zero)=some (.slice none 0 0):=by kernel_rfl
theorem Dw:(Tryz.prog.info? 3).bind (·.zero)=some (.int .i64 0):=by kernel_rfl
theorem CZ:(Tryz.prog.info? 35).bind (·.zero)=some (.int .i64 0):=by kernel_rfl
instance iAG35:AS Tryz.prog 35:=⟨by kernel_rfl⟩
theorem zx:(Tryz.prog.info? 51).bind (·.zero)=some (.agg #[.int .i64 0,.slice none 0 0]):=by kernel_rfl
theorem zZ:(Tryz.prog.info? 153).bind (·.zero)=some (.agg #[.pointer none,.slice none 0 0]):=by kernel_rfl
instance iUD106:UD Tryz.prog 106 (.int .u32):=⟨Tryz.underlying106⟩
theorem Cd:∀ fs,Tryz.prog.underlying 51=some (.struct fs)→fs.toList.map (fun f=>(Tryz.prog.info? f.type).map (·.size))=([1,1]:List Nat).map some:=by
 intro fs h
 rw [Tryz.underlying51] at h
 cases h
 kernel_rfl
theorem zb:(Tryz.prog.info? 51).map (·.size)=some 2:=by kernel_rfl
theorem xF:∀ fs,Tryz.prog.underlying 55=some (.struct fs)→fs.toList.map (fun f=>(Tryz.prog.info? f.type).map (·.size))=([2,1,8,1]:List Nat).map some:=by
 intro fs h
 rw [Tryz.underlying55] at h
 cases h
 kernel_rfl
theorem qO:(Tryz.prog.info? 55).bind (·.zero)=some (.agg #[.int .i64 0,.slice none 0 0,.bool false,.bool false,.string ByteArray.empty,.string ByteArray.empty,.slice none 0 0,.slice none 0 0,.bool false,.string ByteArray.empty,.int .i64 0,.bool false]):=by kernel_rfl
theorem tT:(Tryz.prog.info? 55).map (·.size)=some 12:=by kernel_rfl
theorem qP:(Tryz.prog.info? 26).map (·.size)=some 3:=by kernel_rfl
theorem CW:∀ fs,Tryz.prog.underlying 53=some (.struct fs)→fs.toList.map (fun f=>(Tryz.prog.info? f.type).map (·.size))=([3,1,1,1,1,1]:List Nat).map some:=by
 intro fs h
 rw [Tryz.underlying53] at h
 cases h
 kernel_rfl
theorem xS:(Tryz.prog.info? 53).bind (·.zero)=some (.agg #[.bool false,.string ByteArray.empty,.string ByteArray.empty,.slice none 0 0,.slice none 0 0,.bool false,.string ByteArray.empty,.int .i64 0]):=by kernel_rfl
theorem xI:(Tryz.prog.info? 53).map (·.size)=some 8:=by kernel_rfl
instance iFO30_2:FO Tryz.prog 30 2 2:=⟨by kernel_rfl⟩
instance iAG26:AA Tryz.prog 26 3:=⟨by kernel_rfl⟩
theorem CV:∀ fs,Tryz.prog.underlying 62=some (.struct fs)→fs.toList.map (fun f=>(Tryz.prog.info? f.type).map (·.size))=([1,1,1]:List Nat).map some:=by
 intro fs h
 rw [Tryz.underlying62] at h
 cases h
 kernel_rfl
theorem Dh:(Tryz.prog.info? 62).bind (·.zero)=some (.agg #[.int .i64 0,.int .i64 0,.slice none 0 0]):=by kernel_rfl
instance iFO62_0:FO Tryz.prog 62 0 0:=⟨by kernel_rfl⟩
instance iFO62_1:FO Tryz.prog 62 1 1:=⟨by kernel_rfl⟩
instance iFO62_2:FO Tryz.prog 62 2 2:=⟨by kernel_rfl⟩
instance iAG60:AS Tryz.prog 60:=⟨by kernel_rfl⟩
instance iUD60:UD Tryz.prog 60 (.slice 53):=⟨Tryz.underlying60⟩
instance iLiT_Mail:LenI aU.ienc 8:=⟨aU.ilen⟩
instance iSZ53:SZ Tryz.prog 53 8:=⟨by kernel_rfl⟩
instance iAG53:AA Tryz.prog 53 8:=⟨by kernel_rfl⟩
theorem xb:∀ fs,Tryz.prog.underlying 26=some (.struct fs)→fs.toList.map (fun f=>(Tryz.prog.info? f.type).map (·.size))=([1,1,1]:List Nat).map some:=by
 intro fs h
 rw [Tryz.underlying26] at h
 cases h
 kernel_rfl
theorem pM:(Tryz.prog.info? 26).bind (·.zero)=some (.agg #[.bool false,.string ByteArray.empty,.string ByteArray.empty]):=by kernel_rfl
instance iFO26_0:FO Tryz.prog 26 0 0:=⟨by kernel_rfl⟩
instance iFO26_1:FO Tryz.prog 26 1 1:=⟨by kernel_rfl⟩
instance iFO26_2:FO Tryz.prog 26 2 2:=⟨by kernel_rfl⟩
instance iFO53_0:FO Tryz.prog 53 0 0:=⟨by kernel_rfl⟩
instance iFO53_1:FO Tryz.prog 53 1 3:=⟨by kernel_rfl⟩
instance iUD27:UD Tryz.prog 27 (.slice 26):=⟨Tryz.underlying27⟩
instance iLT_Path:LenE ae.enc 3:=⟨ae.len⟩
instance iSZ26:SZ Tryz.prog 26 3:=⟨by kernel_rfl⟩
instance iFO53_2:FO Tryz.prog 53 2 4:=⟨by kernel_rfl⟩
instance iFO53_3:FO Tryz.prog 53 3 5:=⟨by kernel_rfl⟩
instance iFO53_4:FO Tryz.prog 53 4 6:=⟨by kernel_rfl⟩
instance iFO53_5:FO Tryz.prog 53 5 7:=⟨by kernel_rfl⟩
instance iAG62:AA Tryz.prog 62 3:=⟨by kernel_rfl⟩
theorem vA:((Tryz.prog.info? 222).bind (·.zero)).map (·.cells.toList)=some (List.map (Value.int .u32) (List.replicate 16 (0:Int))):=by kernel_rfl
theorem fA:(Tryz.prog.info? 106).map (·.size)=some 1:=by kernel_rfl
theorem vR:(Tryz.prog.info? 222).map (·.size)=some 16:=by kernel_rfl
instance iFO30_4:FO Tryz.prog 30 4 6:=⟨by kernel_rfl⟩
instance iFO30_1:FO Tryz.prog 30 1 1:=⟨by kernel_rfl⟩
instance iFO80_3:FO Tryz.prog 80 3 18:=⟨by kernel_rfl⟩
instance iAG55:AA Tryz.prog 55 12:=⟨by kernel_rfl⟩
theorem Cs:(Tryz.prog.info? 137).bind (·.zero)=some (.slice none 0 0):=by kernel_rfl
theorem Ci:eH Tryz.prog 137 28 1 24:=⟨⟨Tryz.t28,.slice none 0 0,Tryz.underlying137,by kernel_rfl,by kernel_rfl,by kernel_rfl,by kernel_rfl,by decide,by kernel_rfl⟩⟩
theorem BS:(Tryz.prog.info? 137).map (·.size)=some 1:=by kernel_rfl
instance iAG137:AS Tryz.prog 137:=⟨by kernel_rfl⟩
instance iUD137:UD Tryz.prog 137 (.slice 28):=⟨Tryz.underlying137⟩
instance iLiRow_int_u8:LenI Row_int_u8.ienc 1:=⟨Row_int_u8.ilen⟩
instance iSZ28:SZ Tryz.prog 28 1:=⟨by kernel_rfl⟩
theorem Ay:(Tryz.prog.info? 34).map (·.size)=some 1:=by kernel_rfl
theorem Az:eH Tryz.prog 34 55 12 168:=⟨⟨Tryz.t55,.agg #[.int .i64 0,.slice none 0 0,.bool false,.bool false,.string ByteArray.empty,.string ByteArray.empty,.slice none 0 0,.slice none 0 0,.bool false,.string ByteArray.empty,.int .i64 0,.bool false],Tryz.underlying34,by kernel_rfl,by kernel_rfl,by kernel_rfl,by kernel_rfl,by decide,by kernel_rfl⟩⟩
instance iFO80_4:FO Tryz.prog 80 4 19:=⟨by kernel_rfl⟩
instance iAG34:AS Tryz.prog 34:=⟨by kernel_rfl⟩
theorem yC:zY Tryz.prog 74 0:=fun p1 p2 n c1 k c2 xs ys m w hx hy hr1 hr2 h1 h2 hp1 hcap hs hk hm=>Tryz.bytes_Cut_all p1 p2 n c1 k c2 xs ys m w hx hy hr1 hr2 h1 h2 hp1 hcap hs hk hm
theorem wB:((Tryz.prog.info? 91).bind (·.zero)).map (·.cells.toList)=some (List.map (Value.int .u8) (List.replicate 16 (0:Int))):=by kernel_rfl
theorem Cj:((Tryz.prog.info? 205).bind (·.zero)).map (·.cells.toList)=some (List.map (Value.int .u8) (List.replicate 64 (0:Int))):=by kernel_rfl
theorem zL:(Tryz.prog.info? 225).bind (·.zero)=some (.agg #[.int .u32 0,.int .u32 0,.int .u32 0,.int .u32 0]):=by kernel_rfl
theorem zU:((Tryz.prog.info? 225).bind (·.zero)).map (·.cells.toList)=some (List.map (Value.int .u32) (List.replicate 4 (0:Int))):=by kernel_rfl
theorem qs:(Tryz.prog.info? 225).map (·.size)=some 4:=by kernel_rfl
theorem Cu:(Tryz.prog.info? 241).map (·.size)=some 64:=by kernel_rfl
theorem Ck:(Tryz.prog.info? 244).map (·.size)=some 4:=by kernel_rfl
instance iUD105:UD Tryz.prog 105 (.int .u64):=⟨Tryz.underlying105⟩
theorem sK:(Tryz.prog.info? 91).map (·.size)=some 16:=by kernel_rfl
theorem Cm:(Tryz.prog.info? 205).map (·.size)=some 64:=by kernel_rfl
instance iFO80_1:FO Tryz.prog 80 1 10:=⟨by kernel_rfl⟩
instance iFO30_7:FO Tryz.prog 30 7 9:=⟨by kernel_rfl⟩
theorem jt:(Tryz.prog.info? 122).bind (·.zero)=some (.agg #[.int .i64 0,.string ByteArray.empty,.bool false,.string ByteArray.empty,.string ByteArray.empty,.slice none 0 0]):=by kernel_rfl
theorem ql:∀ fs,Tryz.prog.underlying 122=some (.struct fs)→fs.toList.map (fun f=>(Tryz.prog.info? f.type).map (·.size))=([1,1,3,1]:List Nat).map some:=by
 intro fs h
 rw [Tryz.underlying122] at h
 cases h
 kernel_rfl
theorem eA:(Tryz.prog.info? 122).map (·.size)=some 6:=by kernel_rfl
instance iAG122:AA Tryz.prog 122 6:=⟨by kernel_rfl⟩
instance iFO122_0:FO Tryz.prog 122 0 0:=⟨by kernel_rfl⟩
theorem zS:(Tryz.prog.info? 120).bind (·.zero)=some (.slice none 0 0):=by kernel_rfl
theorem Cr:(Tryz.prog.info? 120).map (·.size)=some 1:=by kernel_rfl
instance iAG120:AS Tryz.prog 120:=⟨by kernel_rfl⟩
theorem oy:(Tryz.prog.info? 181).bind (·.zero)=some (.agg #[.string ByteArray.empty,.string ByteArray.empty]):=by kernel_rfl
theorem vE:∀ fs,Tryz.prog.underlying 181=some (.struct fs)→fs.toList.map (fun f=>(Tryz.prog.info? f.type).map (·.size))=([1,1]:List Nat).map some:=by
 intro fs h
 rw [Tryz.underlying181] at h
 cases h
 kernel_rfl
theorem nt:(Tryz.prog.info? 181).map (·.size)=some 2:=by kernel_rfl
instance iAG181:AA Tryz.prog 181 2:=⟨by kernel_rfl⟩
instance iSZ9:SZ Tryz.prog 9 1:=⟨by kernel_rfl⟩
instance iUD120:UD Tryz.prog 120 (.slice 181):=⟨Tryz.underlying120⟩
instance iLT_Param:LenE ay.enc 2:=⟨ay.len⟩
instance iFO181_0:FO Tryz.prog 181 0 0:=⟨by kernel_rfl⟩
instance iSZ181:SZ Tryz.prog 181 2:=⟨by kernel_rfl⟩
theorem Cl:eH Tryz.prog 120 181 2 32:=⟨⟨Tryz.t181,.agg #[.string ByteArray.empty,.string ByteArray.empty],Tryz.underlying120,by kernel_rfl,by kernel_rfl,by kernel_rfl,by kernel_rfl,by decide,by kernel_rfl⟩⟩
instance iFO122_1:FO Tryz.prog 122 1 1:=⟨by kernel_rfl⟩
instance iFO122_3:FO Tryz.prog 122 3 5:=⟨by kernel_rfl⟩
instance iFO181_1:FO Tryz.prog 181 1 1:=⟨by kernel_rfl⟩
instance iFO122_2:FO Tryz.prog 122 2 2:=⟨by kernel_rfl⟩
instance iFO80_2:FO Tryz.prog 80 2 17:=⟨by kernel_rfl⟩
instance iUD34:UD Tryz.prog 34 (.slice 55):=⟨Tryz.underlying34⟩
instance iLiT_Out:LenI au.ienc 12:=⟨au.ilen⟩
instance iSZ55:SZ Tryz.prog 55 12:=⟨by kernel_rfl⟩
instance iFO55_0:FO Tryz.prog 55 0 0:=⟨by kernel_rfl⟩
instance iFO51_0:FO Tryz.prog 51 0 0:=⟨by kernel_rfl⟩
abbrev az.c (x:az) (r:List AV):List AV:=vi x.ES::vs x.EE::vb x.EA.EM::vs x.EA.EI::vs x.EA.Ex :: .fl .shr 3 (flatten (map ae.enc x.To))::vb x.EU::fb x.Eu::vs x.Ev::vb x.ET::r
abbrev aU.c (x:aU) (r:List AV):List AV:=vb x.EA.EM::vs x.EA.EI::vs x.EA.Ex :: .fl .shr 3 (flatten (map ae.enc x.To))::fb x.Et::vb x.EU::vs x.EE::vi x.At::r
abbrev aC.c (x:aC) (r:List AV):List AV:=vs (x.Ey.getD 0 z0)::vs (x.Ey.getD 1 z0)::vi x.Ez::vs x.EY::vs x.EW::vi x.EJ::vb x.ED::r
abbrev br.c (x:br) (r:List AV):List AV:=vi x.EG::vs x.EX::vb x.EQ.EM::vs x.EQ.EI::vs x.EQ.Ex :: .fl .shr 2 (flatten (map ay.enc x.EP))::r
theorem lC (challenge:Fa) (r:az) (h:Sh.lr challenge=some r):bL Tryz.prog 22 [.v (.string challenge)] (.agg [.v (.int .i64 r.ES),.v (.string r.EE),.v (.bool r.EA.EM),.v (.string r.EA.EI),.v (.string r.EA.Ex),.fl (.own 26) 3 (flatten (map ae.enc r.To)),.v (.bool r.EU),.fl (.own 5) 1 (map (int .u8) r.Eu),.v (.string r.Ev),.v (.bool r.ET)]):=by
 unfold Sh.lr at h
 refine yO 5 func22 fun g0 hn hio => ?_
 refine eC hn 0 ?_
 refine yS (.box 30 [vi 0,vs z0,vb false,vs z0,vs z0,vz,vb false,vz,vs z0,vb false]) 0 ⟨oA (aP _ _ qI)⟩ ?_
 refine aT [0,2] ?_
 refine eC hn 1 ?_
 refine yS (.agg [vi 0,vs z0,vb false,vs z0,vs z0,vz,vb false,vz,vs challenge,vb false]) 1 ⟨bn _ _ _ _ [1,1,3,1,1,1,1,1] _ _ underlying30 qI (Br _ underlying30) (.copy _ (.copy _ km.nil)) rfl rfl rfl⟩ ?_
 refine aT [2] ?_
 refine am ?_
 refine bT (fs:=[(2,.box 30 [vi 0,vs z0,vb false,vs z0,vs z0,.fl (.own 26) 3 (flatten (map ae.enc [])),vb false,.fl (.own 5) 1 (map (int .u8) []),vs challenge,vb false])]) (.box _ _ (af (aj _) (af (aj _) (af (aj _) (af (aj _) (af (aj _) (af (bC 26 3) (af (aj _) (af (bC 5 1) (af (aj _) (af (aj _) (bj))))))))))) rfl .nil) ?_
 obtain rfl:=zi h
 exact ao hio rfl (.cellA _ _ _ _ underlying30 rfl nq .nil) rfl rfl
theorem dr (r:aC) (h:Sh.cv  = some r):bL Tryz.prog 20 [] (.agg [.v (.string ((r.Ey.getD 0 (⟨#[]⟩:Fa)))),.v (.string ((r.Ey.getD 1 (⟨#[]⟩:Fa)))),.v (.int .i64 r.Ez),.v (.string r.EY),.v (.string r.EW),.v (.int .i64 r.EJ),.v (.bool r.ED)]):=by
 unfold Sh.cv at h
 refine yO 3 func20 fun g0 hn hio => ?_
 refine eC hn 0 ?_
 refine yS (.box 24 [vs z0,vs z0,vi 0,vs z0,vs z0,vi 0,vb false]) 0 ⟨oA (aP _ _ Ce)⟩ ?_
 refine aT [0] ?_
 refine eC hn 0 ?_
 refine yS (.agg [vs (⟨#[97]⟩:Fa),vs (⟨#[98]⟩:Fa)]) 0 ⟨qW _ _ (.agg #[.string ByteArray.empty,.string ByteArray.empty]) (map Value.string (([(⟨#[97]⟩:Fa),(⟨#[98]⟩:Fa)]:List Fa))) [(0,.string (⟨#[97]⟩:Fa)),(1,.string (⟨#[98]⟩:Fa))] underlying22 pW Da (fun _ V w o a hv hes=>by simp only [List.map_toArray,List.map_cons,List.map_nil]; try rfl) (cn (by simp [Instr.fill,Value.cells]; rfl) (by simp)) rfl⟩ ?_
 refine yS (.agg [vs (⟨#[97]⟩:Fa),vs (⟨#[98]⟩:Fa),vi 9,vs (⟨#[117]⟩:Fa),vs (⟨#[115]⟩:Fa),vi 9000,vb false]) 1 ⟨bn _ _ _ _ [2,1,1,1,1,1] _ _ underlying24 Ce (DM _ underlying24) (.copy _ (.copy _ (.copy _ (.copy _ (.copy _ km.nil))))) rfl rfl rfl⟩ ?_
 refine aT [0] ?_
 refine am ?_
 obtain rfl:=zi h
 exact ao hio rfl (.cellA _ _ _ _ underlying24 rfl BX .nil) rfl rfl
theorem lZ (s:Fa) (sep:Fa) (sepSave:Int) (r:(Fa×Fa×Int)) (h:Sh.gv s sep sepSave=some r):bL Tryz.prog 93 [.v (.string s),.v (.string sep),.v (.int .i64 sepSave)] (.cloB 119 [.box 9 [.v (.string r.1)],.box 9 [.v (.string r.2.1)],.box 3 [.v (.int .i64 r.2.2)]]):=by
 unfold Sh.gv at h
 refine yO 8 func93 fun g0 hn hio => ?_
 refine aI hn 4 [3,4,5] ?_
 refine eC hn 0 ?_
 refine yk [4,3,5] [] ?_
 refine yt (7,.cloB 119 [.box 9 [vs sep],.box 9 [vs s],.box 3 [vi sepSave]]) 0 ⟨tF _ _ [4,3,5] [.box 9 [vs sep],.box 9 [vs s],.box 3 [vi sepSave]] rfl rfl rfl⟩ ?_
 refine ya 0 ?_
 refine aT [6] ?_
 refine am ?_
 obtain rfl:=zi h
 exact ao hio rfl (.tmp _ _ .nil) rfl rfl
theorem eK (s:Fa) (sep:Fa) (r:(Fa×Fa×Int)) (h:Sh.dy s sep=some r):bL Tryz.prog 80 [.v (.string s),.v (.string sep)] (.cloB 119 [.box 9 [.v (.string r.1)],.box 9 [.v (.string r.2.1)],.box 3 [.v (.int .i64 r.2.2)]]):=by
 unfold Sh.dy at h
 refine yO 8 func80 fun g0 hn hio => ?_
 refine aI hn 1 [0,1] ?_
 refine ab ?_
 obtain ⟨v1,hv1,h⟩:=zn h
 refine yx hn 2 ?_
 refine yk [] [5,6] ?_
 refine yt (7,.cloB 119 [.box 9 [vs v1.1],.box 9 [vs v1.2.1],.box 3 [vi v1.2.2]]) 0 ⟨eR _ _ 93 _ _ rfl call93 rfl rfl (lZ s sep 0 _ hv1) rfl⟩ ?_
 refine ya 0 ?_
 refine aT [4] ?_
 refine am ?_
 obtain rfl:=zi h
 exact ao hio rfl (.tmp _ _ .nil) rfl rfl
theorem ep (mx:Int×Nat×Value) (s:Fa) (r:(Int×Int)) (h:Sh.bP s=some r):fk Tryz.prog (GL mx) 142 [.v (.string s)] (.tup [.v (.int .i32 r.1),.v (.int .i64 r.2)]):=by
 unfold Sh.bP at h
 refine yG 117 func142 fun g0 hn hio => ?_
 refine aI hn 2 [0,117] ?_
 refine aI hn 3 [0,117,4] ?_
 refine ab ?_
 refine aI hn 2 [0,117,4,16] ?_
 refine al _ rfl (fun hb1 => ?_) (fun hb1 => ?_)
 ·have h:=ap hb1 h
  refine aI hn 2 [117,2,3] ?_
  refine am ?_
  refine ah [1,2] (by kernel_rfl) (es':=[(_,_),(_,_)]) rfl ?_
  refine ai ?_
  obtain rfl:=zi h
  exact ao hio rfl (.tmp _ _ (.tmp _ _ .nil)) rfl rfl
 ·have h:=aq hb1 h
  refine ar ?_
  refine ag (ab ?_)
  obtain ⟨v2,hv2,h⟩:=zn h
  refine yx hn 1 ?_
  refine ys 1 ⟨lh hv2⟩ ?_
  refine aT [0,117,4,5] ?_
  refine ab ?_
  obtain ⟨v3,hv3,h⟩:=zn h
  obtain ⟨v4,hv4,h⟩:=zn h
  refine yx hn 1 ?_
  refine yS (.v (.pointer (some ⟨1,(0+v3 * 1),none⟩))) 0 ⟨lA _ _ _ _ 256 1 0 _ 1 _ underlying184 jA rfl rfl (bk hv3).1 (bk hv3).2⟩ ?_
  refine yS (.v (.int .u8 v4)) 1 ⟨jZ _ _ 117 1 _ _ _ underlying5 rfl rfl rfl (vC mx) (cC hv4)⟩ ?_
  refine aT [0,117,4,5,6] ?_
  refine ab ?_
  refine aI hn 2 [0,117,4,5,6,23] ?_
  refine al _ rfl (fun hb5 => ?_) (fun hb5 => ?_)
  ·have h:=ap hb5 h
   refine ab ?_
   obtain ⟨v6,hv6,h⟩:=zn h
   obtain ⟨v7,hv7,h⟩:=zn h
   obtain ⟨v8,hv8,h⟩:=zn h
   refine yx hn 1 ?_
   refine ys 0 ⟨lv hv6⟩ ?_
   refine ys 0 ⟨lB (nN hv7)⟩ ?_
   refine ys 1 ⟨lB (jN hv8)⟩ ?_
   refine aT [0,117,7] ?_
   refine ab ?_
   obtain ⟨v9,hv9,h⟩:=zn h
   obtain ⟨v10,hv10,h⟩:=zn h
   obtain ⟨v11,hv11,h⟩:=zn h
   obtain ⟨v12,hv12,h⟩:=zn h
   obtain ⟨v13,hv13,h⟩:=zn h
   refine yx hn 1 ?_
   refine ys 0 ⟨lh hv9⟩ ?_
   refine ys 1 ⟨lv hv10⟩ ?_
   refine ys 1 ⟨lb hv11⟩ ?_
   refine ys 0 ⟨lb hv12⟩ ?_
   refine ys 2 ⟨lb hv13⟩ ?_
   refine aT [117,2,3] ?_
   refine am ?_
   refine ah [1,2] (by kernel_rfl) (es':=[(_,_),(_,_)]) rfl ?_
   refine ai ?_
   obtain rfl:=zi h
   exact ao hio rfl (.tmp _ _ (.tmp _ _ .nil)) rfl rfl
  ·have h:=aq hb5 h
   cases h
theorem fj (mx:Int×Nat×Value) (s:Fa) (r:(Int×Int)) (h:Sh.ci s=some r):fk Tryz.prog (GL mx) 120 [.v (.string s)] (.tup [.v (.int .i32 r.1),.v (.int .i64 r.2)]):=by
 unfold Sh.ci at h
 refine yG 19 func120 fun g0 hn hio => ?_
 refine aI hn 2 [0,19] ?_
 refine ab (ab ?_)
 refine aD h (fun (s2:Bool)=>[(0,vs s),(19,.glob (GL mx)),(10,vb s2)]) ?_ ?_
 ·rintro s2 h
  refine ag ?_
  refine al _ rfl (fun hb6 => ?_) (fun hb6 => ?_)
  ·have h:=ap hb6 h
   refine ab ?_
   obtain ⟨v7,hv7,h⟩:=zn h
   obtain ⟨v8,hv8,h⟩:=zn h
   refine yx hn 1 ?_
   refine ys 0 ⟨lh hv7⟩ ?_
   refine ys 2 ⟨lv hv8⟩ ?_
   refine aT [19,2,3] ?_
   refine am ?_
   refine ah [1,2] (by kernel_rfl) (es':=[(_,_),(_,_)]) rfl ?_
   refine ai ?_
   obtain rfl:=zi h
   exact ao hio rfl (.tmp _ _ (.tmp _ _ .nil)) rfl rfl
  ·have h:=aq hb6 h
   obtain ⟨v9,hv9,h⟩:=zn h
   refine yx hn 1 ?_
   refine ys 0 ⟨lg call142 (ep _ _ _ hv9) 19⟩ ?_
   refine ym 4 ?_
   refine aT [19,2,3] ?_
   refine am ?_
   refine ah [1,2] (by kernel_rfl) (es':=[(_,_),(_,_)]) rfl ?_
   obtain rfl:=zi h
   exact ao hio rfl (.tmp _ _ (.tmp _ _ .nil)) rfl rfl
 ·intro u3 h hl4 hr5
  refine ak h (fun hg1_2 h => ?_) (fun hg1_2 h => ?_)
  ·obtain ⟨v1,hv1,h⟩:=zn h
   refine yx hn 3 ?_
   refine yd hg1_2 1 ?_
   refine ys 2 ⟨lh hv1⟩ ?_
   refine ye [0,19,10] ?_
   exact hl4 _ (zi h).symm
  ·refine yx hn 3 ?_
   refine yd hg1_2 4 ?_
   refine ye [0,19,10] ?_
   exact hl4 _ (zi h).symm
theorem js (s sub:Fa) (r:Int) (h:Sh.dn s sub=some r):bL Tryz.prog 121 [.v (.string s),.v (.string sub)] (.v (.int .i64 r)):=iU Tryz.strings_Index_one s sub r h
theorem dV (mx:Int×Nat×Value) (l:Nat) {S:Type} (J:S→jf) (Y:Fa→S→Option (S×Bool)) (hY:mZ Tryz.prog l (fun x => .v (.string x)) Y J) (c0:Fa) (c1:Fa) (c2:Int) (st r:S) (h:Sh.cQ Y c0 c1 c2 st=some r):Co Tryz.prog (GL mx) 119 l [.box 9 [.v (.string c0)],.box 9 [.v (.string c1)],.box 3 [.v (.int .i64 c2)]] (J st) (J r):=by
 unfold Sh.cQ at h
 refine yI 52 func119 fun g0 hn hio => ?_
 refine ab ?_
 refine aI hn 3 [0,1,2,3,52,53,11] ?_
 refine al _ rfl (fun hb1 => ?_) (fun hb1 => ?_)
 ·have h:=ap hb1 h
  refine ab ?_
  refine gJ [0,2,4,5] (by kernel_rfl) (es':=[(_,_),(_,_),(_,_),(_,_)]) rfl ?_
  refine aX h (fun ((s12,s13):Fa×S)=>[(0,.v (.func (.yield l) #[] #[])),(2,.box 9 [vs s12]),(52,.glob (GL mx)),(53,.inv (J s13))]) (fun (s16:S)=>[(52,.glob (GL mx)),(53,.inv (J s16))]) ?_ ?_
  ·rintro s16 h
   refine ag (am ?_)
   refine ah [1] (by kernel_rfl) (es':=[(53,.inv (J s16))]) rfl ?_
   refine ai ?_
   obtain rfl:=zi h
   exact pr hio rfl rfl rfl
  ·rintro u17 hl18 hr19 ⟨s12,s13⟩ rr22 h ho20
   refine ab ?_
   refine aI hn 3 [0,2,52,53,14] ?_
   refine al _ rfl (fun hb23 => ?_) (fun hb23 => ?_)
   ·have h:=ap hb23 h
    refine ar (ag (aH (ab ?_)))
    obtain ⟨v3,hv3,h⟩:=zn h
    refine yx hn 1 ?_
    refine ys 0 ⟨lg call120 (fj _ _ _ hv3) 52⟩ ?_
    refine ym 4 ?_
    refine aT [0,2,52,53,6] ?_
    refine ab (ab ?_)
    obtain ⟨v4,hv4,h⟩:=zn h
    obtain ⟨v5,hv5,h⟩:=zn h
    refine yx hn 3 ?_
    refine yS (vs v4) 0 ⟨cr _ _ _ 0 v3.2 _ underlying9 rfl rfl ⟨_,rfl⟩ hv4⟩ ?_
    refine yk [53] [23,20] ?_
    refine kU (53,.inv (J v5.1)) (24,vb v5.2) 1 ⟨mT _ _ 53 l v4 s13 v5 hY hv5 rfl rfl rfl⟩ ?_
    refine aT [0,2,52,53,6,25] ?_
    refine al _ rfl (fun hb24 => ?_) (fun hb24 => ?_)
    ·have h:=ap hb24 h
     refine am ?_
     refine ah [3] (by kernel_rfl) (es':=[(53,.inv (J v5.1))]) rfl ?_
     refine ai (aG (ai (aG (ai (ai ?_)))))
     have h:=hr19 _ (ho20 _ (zi h).symm).symm
     obtain rfl:=zi h
     exact pr hio rfl rfl rfl
    ·have h:=aq hb24 h
     refine ar (ag ?_)
     obtain ⟨v7,hv7,h⟩:=zn h
     refine yx hn 2 ?_
     refine yS (vs v7) 1 ⟨cr _ _ _ v3.2 (s12.size:Int) _ underlying9 rfl ⟨_,rfl⟩ rfl hv7⟩ ?_
     refine ye [0,2,52,53] ?_
     refine aJ ?_
     exact bi _ (zi h).symm rfl
   ·have h:=aq hb23 h
    refine bh (aB (aB (bf ?_)))
    refine ah [2,3] (by kernel_rfl) (es':=[(_,_),(_,_)]) rfl ?_
    exact hl18 _ (ho20 _ (zi h).symm).symm
 ·have h:=aq hb1 h
  refine ar ?_
  refine ag (ab ?_)
  refine gJ [0,1,2,3,4,5] (by kernel_rfl) (es':=[(_,_),(_,_),(_,_),(_,_),(_,_),(_,_)]) rfl ?_
  refine aX h (fun ((s37,s38):Fa×S)=>[(0,.v (.func (.yield l) #[] #[])),(1,.box 9 [vs c0]),(2,.box 9 [vs s37]),(3,.box 3 [vi c2]),(52,.glob (GL mx)),(53,.inv (J s38))]) (fun ((s41,s42):Fa×S)=>[(0,.v (.func (.yield l) #[] #[])),(2,.box 9 [vs s41]),(52,.glob (GL mx)),(53,.inv (J s42))]) ?_ ?_
  ·rintro ⟨s41,s42⟩ h
   refine ag ?_
   obtain ⟨v51,hv51,h⟩:=zn h
   refine yx hn 2 ?_
   refine yk [53] [50,49] ?_
   refine kU (53,.inv (J v51.1)) (51,vb v51.2) 0 ⟨mT _ _ 53 l s41 s42 v51 hY hv51 rfl rfl rfl⟩ ?_
   refine ye [52,53] ?_
   refine ah [1] (by kernel_rfl) (es':=[(53,.inv (J v51.1))]) rfl ?_
   obtain rfl:=zi h
   exact zh hio rfl rfl rfl
  ·rintro u43 hl44 hr45 ⟨s37,s38⟩ rr48 h ho46
   refine aH (ab ?_)
   obtain ⟨v25,hv25,h⟩:=zn h
   refine yx hn 2 ?_
   refine ys 1 ⟨lk call121 (js _ _ _ hv25)⟩ ?_
   refine aT [0,1,2,3,52,53,7] ?_
   refine ab ?_
   refine aI hn 2 [0,1,2,3,52,53,7,33] ?_
   refine al _ rfl (fun hb49 => ?_) (fun hb49 => ?_)
   ·have h:=ap hb49 h
    refine bh (aB ?_)
    refine tB (by decide) ?_
    refine aB (bf ?_)
    refine ah [0,2,4,5] (by kernel_rfl) (es':=[(_,_),(_,_),(_,_),(_,_)]) rfl ?_
    exact hl44 _ (ho46 _ (zi h).symm).symm
   ·have h:=aq hb49 h
    refine ar ?_
    refine ag (ab ?_)
    obtain ⟨v27,hv27,h⟩:=zn h
    obtain ⟨v28,hv28,h⟩:=zn h
    refine yx hn 3 ?_
    refine ys 0 ⟨lb hv27⟩ ?_
    refine yS (vs v28) 1 ⟨cr _ _ _ 0 v27 _ underlying9 rfl rfl ⟨_,rfl⟩ hv28⟩ ?_
    refine aT [0,1,2,3,52,53,7,8] ?_
    refine ab (ab ?_)
    obtain ⟨v29,hv29,h⟩:=zn h
    refine yx hn 2 ?_
    refine yk [53] [40,39] ?_
    refine kU (53,.inv (J v29.1)) (41,vb v29.2) 1 ⟨mT _ _ 53 l v28 s38 v29 hY hv29 rfl rfl rfl⟩ ?_
    refine aT [0,1,2,3,52,53,7,42] ?_
    refine al _ rfl (fun hb50 => ?_) (fun hb50 => ?_)
    ·have h:=ap hb50 h
     refine am ?_
     refine ah [5] (by kernel_rfl) (es':=[(53,.inv (J v29.1))]) rfl ?_
     refine ai (aG (ai (aG (ai ?_))))
     have h:=hr45 _ (ho46 _ (zi h).symm).symm
     obtain rfl:=zi h
     exact pr hio rfl rfl rfl
    ·have h:=aq hb50 h
     refine ar (ag ?_)
     obtain ⟨v31,hv31,h⟩:=zn h
     obtain ⟨v32,hv32,h⟩:=zn h
     refine yx hn 4 ?_
     refine ys 0 ⟨lb hv31⟩ ?_
     refine yS (vs v32) 1 ⟨cr _ _ _ v31 (s37.size:Int) _ underlying9 rfl ⟨_,rfl⟩ rfl hv32⟩ ?_
     refine ye [0,1,2,3,52,53] ?_
     refine aJ ?_
     exact bi _ (zi h).symm rfl
theorem cV (c:Int) (r:Bool) (h:Sh.ec c=some r):bL Tryz.prog 83 [.v (.int .u8 c)] (.v (.bool r)):=by
 unfold Sh.ec at h
 refine yO 25 func83 fun g0 hn hio => ?_
 refine aI hn 1 [0] ?_
 refine ab ?_
 refine aD h (fun (s1:Bool)=>[(2,vb s1)]) ?_ ?_
 ·rintro s1 h
  refine ag (am ?_)
  obtain rfl:=zi h
  exact ao hio rfl (.tmp _ _ .nil) rfl rfl
 ·intro u2 h hl3 hr4
  refine ak h (fun hg1_2 h => ?_) (fun hg1_2 h => ?_)
  ·refine ak h (fun hg1_6 h => ?_) (fun hg1_6 h => ?_)
   ·refine yx hn 3 ?_
    refine yd hg1_2 4 ?_
    refine yd hg1_6 16 ?_
    refine ye [2] ?_
    exact hl3 _ (zi h).symm
   ·refine ak h (fun hg1_9 h => ?_) (fun hg1_9 h => ?_)
    ·refine ak h (fun hg1_14 h => ?_) (fun hg1_14 h => ?_)
     ·refine yx hn 3 ?_
      refine yd hg1_2 4 ?_
      refine yd hg1_6 3 ?_
      refine yd hg1_9 5 ?_
      refine yd hg1_14 8 ?_
      refine ye [2] ?_
      exact hl3 _ (zi h).symm
     ·refine ak h (fun hg1_17 h => ?_) (fun hg1_17 h => ?_)
      ·refine yx hn 3 ?_
       refine yd hg1_2 4 ?_
       refine yd hg1_6 3 ?_
       refine yd hg1_9 5 ?_
       refine yd hg1_14 3 ?_
       refine yd hg1_17 5 ?_
       refine ye [2] ?_
       exact hl3 _ (zi h).symm
      ·refine yx hn 3 ?_
       refine yd hg1_2 4 ?_
       refine yd hg1_6 3 ?_
       refine yd hg1_9 5 ?_
       refine yd hg1_14 3 ?_
       refine yd hg1_17 5 ?_
       refine ye [2] ?_
       exact hl3 _ (zi h).symm
    ·refine ak h (fun hg1_17 h => ?_) (fun hg1_17 h => ?_)
     ·refine yx hn 3 ?_
      refine yd hg1_2 4 ?_
      refine yd hg1_6 3 ?_
      refine yd hg1_9 8 ?_
      refine yd hg1_17 5 ?_
      refine ye [2] ?_
      exact hl3 _ (zi h).symm
     ·refine yx hn 3 ?_
      refine yd hg1_2 4 ?_
      refine yd hg1_6 3 ?_
      refine yd hg1_9 8 ?_
      refine yd hg1_17 5 ?_
      refine ye [2] ?_
      exact hl3 _ (zi h).symm
  ·refine ak h (fun hg1_9 h => ?_) (fun hg1_9 h => ?_)
   ·refine ak h (fun hg1_14 h => ?_) (fun hg1_14 h => ?_)
    ·refine yx hn 3 ?_
     refine yd hg1_2 7 ?_
     refine yd hg1_9 5 ?_
     refine yd hg1_14 8 ?_
     refine ye [2] ?_
     exact hl3 _ (zi h).symm
    ·refine ak h (fun hg1_17 h => ?_) (fun hg1_17 h => ?_)
     ·refine yx hn 3 ?_
      refine yd hg1_2 7 ?_
      refine yd hg1_9 5 ?_
      refine yd hg1_14 3 ?_
      refine yd hg1_17 5 ?_
      refine ye [2] ?_
      exact hl3 _ (zi h).symm
     ·refine yx hn 3 ?_
      refine yd hg1_2 7 ?_
      refine yd hg1_9 5 ?_
      refine yd hg1_14 3 ?_
      refine yd hg1_17 5 ?_
      refine ye [2] ?_
      exact hl3 _ (zi h).symm
   ·refine ak h (fun hg1_17 h => ?_) (fun hg1_17 h => ?_)
    ·refine yx hn 3 ?_
     refine yd hg1_2 7 ?_
     refine yd hg1_9 8 ?_
     refine yd hg1_17 5 ?_
     refine ye [2] ?_
     exact hl3 _ (zi h).symm
    ·refine yx hn 3 ?_
     refine yd hg1_2 7 ?_
     refine yd hg1_9 8 ?_
     refine yd hg1_17 5 ?_
     refine ye [2] ?_
     exact hl3 _ (zi h).symm
theorem pk (c:Int) (r:Bool) (h:Sh.jB c=some r):bL Tryz.prog 82 [.v (.int .u8 c)] (.v (.bool r)):=by
 unfold Sh.jB at h
 refine yO 9 func82 fun g0 hn hio => ?_
 refine aI hn 1 [0] ?_
 refine ab ?_
 refine aD h (fun (s2:Bool)=>[(2,vb s2)]) ?_ ?_
 ·rintro s2 h
  refine ag (am ?_)
  obtain rfl:=zi h
  exact ao hio rfl (.tmp _ _ .nil) rfl rfl
 ·intro u3 h hl4 hr5
  obtain ⟨v1,hv1,h⟩:=zn h
  refine ak h (fun hg1_2 h => ?_) (fun hg1_2 h => ?_)
  ·refine yx hn 1 ?_
   refine ys 1 ⟨lk call83 (cV _ _ hv1)⟩ ?_
   refine yd hg1_2 4 ?_
   refine ye [2] ?_
   exact hl4 _ (zi h).symm
  ·refine yx hn 1 ?_
   refine ys 1 ⟨lk call83 (cV _ _ hv1)⟩ ?_
   refine yd hg1_2 4 ?_
   refine ye [2] ?_
   exact hl4 _ (zi h).symm
theorem ix (s:Fa) (r:Bool) (h:Sh.dl s=some r):bL Tryz.prog 81 [.v (.string s),.v (.func (.func 82) #[] #[])] (.v (.bool r)):=by
 unfold Sh.dl at h
 refine yO 18 func81 fun g0 hn hio => ?_
 refine aI hn 1 [0,1] ?_
 refine ab ?_
 refine aI hn 3 [0,1,7,8] ?_
 refine aX h (fun (s9:Int)=>[(0,vs s),(1,.v (.func (.func 82) #[] #[])),(7,vi (s.size:Int)),(8,vi s9)]) (fun (():Unit)=>[]) ?_ ?_
 ·rintro ⟨⟩ h
  refine ag ?_
  refine aI hn 1 [4] ?_
  refine am ?_
  obtain rfl:=zi h
  exact ao hio rfl (.tmp _ _ .nil) rfl rfl
 ·rintro u12 hl13 hr14 s9 rr17 h ho15
  refine aI hn 1 [0,1,7,8,9] ?_
  refine ab ?_
  refine al _ rfl (fun hb18 => ?_) (fun hb18 => ?_)
  ·have h:=ap hb18 h
   refine ar ?_
   refine ag (ab ?_)
   refine aH ?_
   refine aI hn 2 [0,1,7,8,5] ?_
   refine ab ?_
   obtain ⟨v2,hv2,h⟩:=zn h
   obtain ⟨v3,hv3,h⟩:=zn h
   refine yx hn 3 ?_
   refine ys 0 ⟨lh hv2⟩ ?_
   refine ys 1 ⟨lk call82 (pk _ _ hv3)⟩ ?_
   refine aT [0,1,7,8,16] ?_
   refine al _ rfl (fun hb19 => ?_) (fun hb19 => ?_)
   ·have h:=ap hb19 h
    refine aI hn 1 [4] ?_
    refine am (aG (ai (ai (aG (ai ?_)))))
    have h:=hr14 _ (ho15 _ (zi h).symm).symm
    obtain rfl:=zi h
    exact ao hio rfl (.tmp _ _ .nil) rfl rfl
   ·have h:=aq hb19 h
    refine ar (aJ (ag ?_))
    obtain ⟨v5,hv5,h⟩:=zn h
    refine yx hn 0 ?_
    refine ys 0 ⟨lb hv5⟩ ?_
    refine yw [8] 1 ?_
    refine ye [0,1,7,8] ?_
    exact bi _ (zi h).symm rfl
  ·have h:=aq hb18 h
   refine bh (aB (aB (bf ?_)))
   refine ah [] (by kernel_rfl) (es':=[]) rfl ?_
   exact hl13 _ (ho15 _ (zi h).symm).symm
theorem qQ (s:Fa) (r:Bool) (h:Sh.mG s=some r):bL Tryz.prog 70 [.v (.string s)] (.v (.bool r)):=by
 unfold Sh.mG at h
 refine yO 27 func70 fun g0 hn hio => ?_
 refine aI hn 1 [0] ?_
 refine ab ?_
 refine aD h (fun (s5:Bool)=>[(2,vb s5)]) ?_ ?_
 ·rintro s5 h
  refine ag (am ?_)
  obtain rfl:=zi h
  exact ao hio rfl (.tmp _ _ .nil) rfl rfl
 ·intro u6 h hl7 hr8
  refine ak h (fun hg1_2 h => ?_) (fun hg1_2 h => ?_)
  ·refine ak h (fun hg1_7 h => ?_) (fun hg1_7 h => ?_)
   ·obtain ⟨v1,hv1,h⟩:=zn h
    refine ak h (fun hg1_12 h => ?_) (fun hg1_12 h => ?_)
    ·obtain ⟨v2,hv2,h⟩:=zn h
     obtain ⟨v3,hv3,h⟩:=zn h
     refine ak h (fun hg1_20 h => ?_) (fun hg1_20 h => ?_)
     ·obtain ⟨v4,hv4,h⟩:=zn h
      refine yx hn 3 ?_
      refine yd hg1_2 5 ?_
      refine yd hg1_7 1 ?_
      refine ys 3 ⟨lh hv1⟩ ?_
      refine yd hg1_12 3 ?_
      refine ys 0 ⟨lb hv2⟩ ?_
      refine ys 3 ⟨lh hv3⟩ ?_
      refine yd hg1_20 1 ?_
      refine ys 2 ⟨lk call81 (ix _ _ hv4)⟩ ?_
      refine ye [2] ?_
      exact hl7 _ (zi h).symm
     ·refine yx hn 3 ?_
      refine yd hg1_2 5 ?_
      refine yd hg1_7 1 ?_
      refine ys 3 ⟨lh hv1⟩ ?_
      refine yd hg1_12 3 ?_
      refine ys 0 ⟨lb hv2⟩ ?_
      refine ys 3 ⟨lh hv3⟩ ?_
      refine yd hg1_20 4 ?_
      refine ye [2] ?_
      exact hl7 _ (zi h).symm
    ·refine yx hn 3 ?_
     refine yd hg1_2 5 ?_
     refine yd hg1_7 1 ?_
     refine ys 3 ⟨lh hv1⟩ ?_
     refine yd hg1_12 12 ?_
     refine ye [2] ?_
     exact hl7 _ (zi h).symm
   ·refine yx hn 3 ?_
    refine yd hg1_2 5 ?_
    refine yd hg1_7 17 ?_
    refine ye [2] ?_
    exact hl7 _ (zi h).symm
  ·refine yx hn 3 ?_
   refine yd hg1_2 22 ?_
   refine ye [2] ?_
   exact hl7 _ (zi h).symm
theorem il (mx:Int×Nat×Value) (s:Fa) (r:Bool) (h:Sh.cU s=some r):fk Tryz.prog (GL mx) 69 [.v (.string s),.v (.func (.func 70) #[] #[])] (.v (.bool r)):=by
 unfold Sh.cU at h
 refine yG 13 func69 fun g0 hn hio => ?_
 refine eC hn 1 ?_
 refine yS (.box 4 [vb false]) 0 ⟨oA (aP _ _ CL)⟩ ?_
 refine aT [0,13,3,4] ?_
 refine ab (ab ?_)
 obtain ⟨v1,hv1,h⟩:=zn h
 refine yx hn 1 ?_
 refine yk [] [6] ?_
 refine yt (7,.cloB 119 [.box 9 [vs v1.1],.box 9 [vs v1.2.1],.box 3 [vi v1.2.2]]) 0 ⟨eR _ _ 80 _ _ rfl call80 rfl rfl (eK s (⟨#[46]⟩:Fa) _ hv1) rfl⟩ ?_
 refine aT [13,3,4,7] ?_
 refine aH ?_
 refine gJ [3,0,1,2] (by kernel_rfl) (es':=[(7,.cloB 119 [.box 9 [vs v1.1],.box 9 [vs v1.2.1],.box 3 [vi v1.2.2]]),(13,.glob (GL mx)),(3,.box 65 [.v (.func (.func 70) #[] #[])]),(4,.box 4 [vb false])]) rfl ?_
 refine fx h 119 7 8 14 _ [13,3,4] call119 (fun (():Unit)=>[(13,.glob (GL mx)),(3,.box 65 [.v (.func (.func 70) #[] #[])]),(4,.box 4 [.v (.bool false)])]) (fun (():Unit)=>[(13,.glob (GL mx)),(3,.box 65 [.v (.func (.func 70) #[] #[])]),(4,.box 4 [.v (.bool false)])]) (fun l J Y hY t t' h=>dV mx l J Y hY v1.1 v1.2.1 v1.2.2 t t' h) hn rfl (fun _=>rfl) (fun _=>rfl) (fun _=>rfl) rfl rfl (fun _=>⟨rfl,rfl⟩) rfl (fw 13 rfl) ?_ ?_ ?_
 ·rintro kk g0 hn hio x ⟨⟩ u h
  refine oY (es':=[(8,vs x),(13,.glob (GL mx)),(3,.box 65 [.v (.func (.func 70) #[] #[])]),(4,.box 4 [vb false]),(13,.v (kk.tm.getD 13 undef)),(3,.v (kk.tm.getD 3 undef)),(4,.v (kk.tm.getD 4 undef)),(14,.inv kk.ready)]) rfl ?_
  refine yy hn 1 [13,3,4,14,5,13,3,4] ?_
  refine ah [0,1,2,4,5,6,7,3] (by kernel_rfl) (es':=[(13,.glob (GL mx)),(3,.box 65 [.v (.func (.func 70) #[] #[])]),(4,.box 4 [vb false]),(5,vs x),(13,.v (kk.tm.getD 13 undef)),(3,.v (kk.tm.getD 3 undef)),(4,.v (kk.tm.getD 4 undef)),(14,.inv kk.ready)]) rfl ?_
  refine gR (es:=[(13,.glob (GL mx)),(3,.box 65 [.v (.func (.func 70) #[] #[])]),(4,.box 4 [vb false]),(5,vs x),(13,.v (kk.tm.getD 13 undef)),(3,.v (kk.tm.getD 3 undef)),(4,.v (kk.tm.getD 4 undef))]) 14 rfl ?_
  refine aH (ab ?_)
  obtain ⟨v2,hv2,h⟩:=zn h
  refine yx hn 2 ?_
  refine ys 1 ⟨lk call70 (qQ _ _ hv2)⟩ ?_
  refine aT [13,3,4,14,12,13,3,4] ?_
  refine al _ rfl (fun hb5 => ?_) (fun hb5 => ?_)
  ·have h:=ap hb5 h
   refine aI hn 1 [13,3,4,14,13,3,4] ?_
   refine am (aG ?_)
   refine ah [0,1,2,4,5,6,3] (by kernel_rfl) (es':=[(_,_),(_,_),(_,_),(_,_),(_,_),(_,_),(_,_)]) rfl ?_
   obtain rfl:=zi h
   exact mU 14 [13,3,4] _ rfl rfl (by kernel_rfl)
  ·have h:=aq hb5 h
   refine ar (aJ ?_)
   refine ah [0,1,2,5,6,7,3] (by kernel_rfl) (es':=[(_,_),(_,_),(_,_),(_,_),(_,_),(_,_),(_,_)]) rfl ?_
   obtain rfl:=zi h
   exact gT 14 [13,3,4] _ rfl rfl (by kernel_rfl)
 ·rintro D ⟨⟩ h
  refine aJ (ag ?_)
  refine aI hn 1 [13,4] ?_
  refine am ?_
  refine ah [1] (by kernel_rfl) (es':=[(_,_)]) rfl ?_
  obtain rfl:=zi h
  exact ao hio rfl (.cell1 _ _ _ _ underlying4 rfl .nil) rfl rfl
 ·rintro D ⟨⟩ h
  refine ah [2] (by kernel_rfl) (es':=[(_,_)]) rfl ?_
  refine aG (ai ?_)
  obtain rfl:=zi h
  exact ao hio rfl (.cell1 _ _ _ _ underlying4 rfl .nil) rfl rfl
theorem bG (mx:Int×Nat×Value) (s:Fa) (r:Bool) (h:Sh.cO s=some r):fk Tryz.prog (GL mx) 55 [.v (.string s)] (.v (.bool r)):=by
 unfold Sh.cO at h
 refine yG 10 func55 fun g0 hn hio => ?_
 refine aI hn 1 [0,10] ?_
 refine ab ?_
 refine aD h (fun (s2:Bool)=>[(10,.glob (GL mx)),(2,vb s2)]) ?_ ?_
 ·rintro s2 h
  refine ag (am ?_)
  refine ah [1] (by kernel_rfl) (es':=[(_,_)]) rfl ?_
  obtain rfl:=zi h
  exact ao hio rfl (.tmp _ _ .nil) rfl rfl
 ·intro u3 h hl4 hr5
  refine ak h (fun hg1_3 h => ?_) (fun hg1_3 h => ?_)
  ·obtain ⟨v1,hv1,h⟩:=zn h
   refine yx hn 4 ?_
   refine yd hg1_3 1 ?_
   refine ys 2 ⟨lg call69 (il _ _ _ hv1) 10⟩ ?_
   refine ye [10,2] ?_
   exact hl4 _ (zi h).symm
  ·refine yx hn 4 ?_
   refine yd hg1_3 4 ?_
   refine ye [10,2] ?_
   exact hl4 _ (zi h).symm
theorem dh (s:Fa) (r:Fa) (h:Sh.dR s=some r):bL Tryz.prog 71 [.v (.string s)] (.v (.string r)):=by
 unfold Sh.dR at h
 refine yO 29 func71 fun g0 hn hio => ?_
 refine aI hn 1 [0] ?_
 refine ab ?_
 obtain ⟨v1,hv1,h⟩:=zn h
 refine yx hn 1 ?_
 refine ys 0 ⟨lU hv1⟩ ?_
 refine ya 0 ?_
 refine aT [3] ?_
 refine ab ?_
 refine eC hn 1 ?_
 refine yS (vi (v1.length:Int)) 1 ⟨lO _ _ _ underlying28 rfl (List.length_map _)⟩ ?_
 refine aT [3,8,9,10] ?_
 refine aX h (fun ((s40,s41):(List Int)×Int)=>[(3,.mkr 5 (map (int .u8) s40)),(8,.same (.slot 3)),(9,vi (v1.length:Int)),(10,vi s41)]) (fun (s57:(List Int))=>[(3,.mkr 5 (map (int .u8) s57))]) ?_ ?_
 ·rintro s57 h
  refine ag (ab ?_)
  obtain ⟨v79,hv79,h⟩:=zn h
  refine yx hn 0 ?_
  refine ym 0 ?_
  refine ys 1 ⟨lM hv79⟩ ?_
  refine aT [2] ?_
  refine am ?_
  obtain rfl:=zi h
  exact ao hio rfl (.tmp _ _ .nil) rfl rfl
 ·rintro u58 hl59 hr60 ⟨s40,s41⟩ rr63 h ho61
  refine aI hn 1 [3,8,9,10,11] ?_
  refine ab ?_
  refine al _ rfl (fun hb64 => ?_) (fun hb64 => ?_)
  ·have h:=ap hb64 h
   refine ar ?_
   refine ag (ab ?_)
   refine aD h (fun (s70:(List Int))=>[(3,.mkr 5 (map (int .u8) s70)),(8,.same (.slot 3)),(9,vi (v1.length:Int)),(10,vi s41)]) ?_ ?_
   ·rintro s70 h
    refine ag ?_
    obtain ⟨v22,hv22,h⟩:=zn h
    refine yx hn 0 ?_
    refine ys 0 ⟨lb hv22⟩ ?_
    refine yw [10] 1 ?_
    refine ye [3,8,9,10] ?_
    exact bi _ (zi h).symm rfl
   ·intro u71 h hl72 hr73
    refine aH (ab ?_)
    obtain ⟨v3,hv3,h⟩:=zn h
    obtain ⟨v4,hv4,h⟩:=zn h
    refine yx hn 1 ?_
    refine yS (.eref (.slot 3) (v3 * 1)) 0 ⟨sG _ _ _ _ _ _ _ underlying28 jA rfl rfl rfl (bk hv3).1 (xl (bk hv3).2) rfl⟩ ?_
    refine yS (.v (.int .u8 v4)) 2 ⟨uL _ _ _ _ _ _ underlying5 rfl rfl rfl (sr hv4)⟩ ?_
    refine aT [3,8,9,10,4,5] ?_
    refine ab ?_
    refine aD h (fun (s74:Bool)=>[(3,.mkr 5 (map (int .u8) s40)),(8,.same (.slot 3)),(9,vi (v1.length:Int)),(10,vi s41),(4,vi s41),(5,.v (.int .u8 v4)),(20,vb s74)]) ?_ ?_
    ·rintro s74 h
     refine ag ?_
     refine al _ rfl (fun hb78 => ?_) (fun hb78 => ?_)
     ·have h:=ap hb78 h
      obtain ⟨v10,hv10,h⟩:=zn h
      obtain ⟨v11,hv11,h⟩:=zn h
      obtain ⟨v12,hv12,h⟩:=zn h
      refine yx hn 3 ?_
      refine ys 0 ⟨lb hv10⟩ ?_
      refine yS (.eref (.slot 3) (v11 * 1)) 0 ⟨sG _ _ _ _ _ _ _ underlying28 jA rfl rfl rfl (bk hv11).1 (xl (bk hv11).2) rfl⟩ ?_
      refine yk [3] [25,24] ?_
      refine yt (3,.mkr 5 (map (int .u8) v12)) 0 ⟨tz _ _ _ _ _ _ _ jA rfl rfl rfl (Ch (bk hv11).2) (BG (f:=int .u8) (Option.some.inj hv12))⟩ ?_
      refine ye [3,8,9,10] ?_
      refine aJ ?_
      exact hl72 _ (zi h).symm
     ·have h:=aq hb78 h
      refine ar (aJ ?_)
      refine ah [0,1,2,3] (by kernel_rfl) (es':=[(_,_),(_,_),(_,_),(_,_)]) rfl ?_
      exact hl72 _ (zi h).symm
    ·intro u75 h hl76 hr77
     refine ak h (fun hg5_2 h => ?_) (fun hg5_2 h => ?_)
     ·refine yx hn 3 ?_
      refine yd hg5_2 3 ?_
      refine ye [3,8,9,10,4,5,20] ?_
      exact hl76 _ (zi h).symm
     ·refine yx hn 3 ?_
      refine yd hg5_2 3 ?_
      refine ye [3,8,9,10,4,5,20] ?_
      exact hl76 _ (zi h).symm
  ·have h:=aq hb64 h
   refine bh (aB (aB (bf ?_)))
   refine ah [0] (by kernel_rfl) (es':=[(_,_)]) rfl ?_
   exact hl59 _ (ho61 _ (zi h).symm).symm
theorem ja (a:Fa) (b:Fa) (r:Bool) (h:Sh.fN a b=some r):bL Tryz.prog 56 [.v (.string a),.v (.string b)] (.v (.bool r)):=by
 unfold Sh.fN at h
 refine yO 10 func56 fun g0 hn hio => ?_
 refine aI hn 1 [0,1] ?_
 refine ab ?_
 obtain ⟨v1,hv1,h⟩:=zn h
 obtain ⟨v2,hv2,h⟩:=zn h
 refine yx hn 1 ?_
 refine ys 1 ⟨lk call71 (dh _ _ hv1)⟩ ?_
 refine ys 2 ⟨lk call71 (dh _ _ hv2)⟩ ?_
 refine aT [4] ?_
 refine am ?_
 obtain rfl:=zi h
 exact ao hio rfl (.tmp _ _ .nil) rfl rfl
theorem lD (s:Fa) (least:Int) (r:Bool) (h:Sh.jc s least=some r):bL Tryz.prog 58 [.v (.string s),.v (.int .u8 least)] (.v (.bool r)):=by
 unfold Sh.jc at h
 refine yO 23 func58 fun g0 hn hio => ?_
 refine aI hn 1 [0,1] ?_
 refine ab ?_
 refine aI hn 3 [0,1,7,8] ?_
 refine aX h (fun (s17:Int)=>[(0,vs s),(1,.v (.int .u8 least)),(7,vi (s.size:Int)),(8,vi s17)]) (fun (():Unit)=>[]) ?_ ?_
 ·rintro ⟨⟩ h
  refine ag ?_
  refine aI hn 1 [4] ?_
  refine am ?_
  obtain rfl:=zi h
  exact ao hio rfl (.tmp _ _ .nil) rfl rfl
 ·rintro u24 hl25 hr26 s17 rr29 h ho27
  refine aI hn 1 [0,1,7,8,9] ?_
  refine ab ?_
  refine al _ rfl (fun hb30 => ?_) (fun hb30 => ?_)
  ·have h:=ap hb30 h
   refine ar ?_
   refine ag (ab ?_)
   refine aH ?_
   refine aI hn 2 [0,1,7,8,5] ?_
   refine ab ?_
   refine aD h (fun (s31:Bool)=>[(0,vs s),(1,.v (.int .u8 least)),(7,vi (s.size:Int)),(8,vi s17),(21,vb s31)]) ?_ ?_
   ·rintro s31 h
    refine ag ?_
    refine al _ rfl (fun hb35 => ?_) (fun hb35 => ?_)
    ·have h:=ap hb35 h
     refine aI hn 1 [4] ?_
     refine am (aG (ai (ai (aG (ai ?_)))))
     have h:=hr26 _ (ho27 _ (zi h).symm).symm
     obtain rfl:=zi h
     exact ao hio rfl (.tmp _ _ .nil) rfl rfl
    ·have h:=aq hb35 h
     refine ar (aJ (ag ?_))
     obtain ⟨v9,hv9,h⟩:=zn h
     refine yx hn 0 ?_
     refine ys 0 ⟨lb hv9⟩ ?_
     refine yw [8] 1 ?_
     refine ye [0,1,7,8] ?_
     exact bi _ (zi h).symm rfl
   ·intro u32 h hl33 hr34
    obtain ⟨v2,hv2,h⟩:=zn h
    refine ak h (fun hg4_5 h => ?_) (fun hg4_5 h => ?_)
    ·refine yx hn 2 ?_
     refine ys 3 ⟨lh hv2⟩ ?_
     refine yd hg4_5 5 ?_
     refine ye [0,1,7,8,21] ?_
     exact hl33 _ (zi h).symm
    ·obtain ⟨v3,hv3,h⟩:=zn h
     refine yx hn 2 ?_
     refine ys 3 ⟨lh hv2⟩ ?_
     refine yd hg4_5 2 ?_
     refine ys 2 ⟨lh hv3⟩ ?_
     refine ye [0,1,7,8,21] ?_
     exact hl33 _ (zi h).symm
  ·have h:=aq hb30 h
   refine bh (aB (aB (bf ?_)))
   refine ah [] (by kernel_rfl) (es':=[]) rfl ?_
   exact hl25 _ (ho27 _ (zi h).symm).symm
theorem jW (s:Fa) (r:Bool) (h:Sh.lK s=some r):bL Tryz.prog 57 [.v (.string s)] (.v (.bool r)):=by
 unfold Sh.lK at h
 refine yO 15 func57 fun g0 hn hio => ?_
 refine aI hn 1 [0] ?_
 refine ab ?_
 refine aD h (fun (s2:Bool)=>[(2,vb s2)]) ?_ ?_
 ·rintro s2 h
  refine ag (am ?_)
  obtain rfl:=zi h
  exact ao hio rfl (.tmp _ _ .nil) rfl rfl
 ·intro u3 h hl4 hr5
  refine ak h (fun hg1_3 h => ?_) (fun hg1_3 h => ?_)
  ·refine ak h (fun hg1_8 h => ?_) (fun hg1_8 h => ?_)
   ·obtain ⟨v1,hv1,h⟩:=zn h
    refine yx hn 4 ?_
    refine yd hg1_3 5 ?_
    refine yd hg1_8 1 ?_
    refine ys 2 ⟨lk call58 (lD _ _ _ hv1)⟩ ?_
    refine ye [2] ?_
    exact hl4 _ (zi h).symm
   ·refine yx hn 4 ?_
    refine yd hg1_3 5 ?_
    refine yd hg1_8 4 ?_
    refine ye [2] ?_
    exact hl4 _ (zi h).symm
  ·refine yx hn 4 ?_
   refine yd hg1_3 9 ?_
   refine ye [2] ?_
   exact hl4 _ (zi h).symm
theorem kC (mx:Int×Nat×Value) (c:aC) (r:Int) (h:Sh.gY c=some r):fk Tryz.prog (GL mx) 35 [.agg [.v (.string ((c.Ey.getD 0 (⟨#[]⟩:Fa)))),.v (.string ((c.Ey.getD 1 (⟨#[]⟩:Fa)))),.v (.int .i64 c.Ez),.v (.string c.EY),.v (.string c.EW),.v (.int .i64 c.EJ),.v (.bool c.ED)]] (.v (.int .i64 r)):=by
 unfold Sh.gY at h
 refine yG 65 func35 fun g0 hn hio => ?_
 refine aI hn 2 [65,1] ?_
 refine ab ?_
 refine aD h (fun (s4:Bool)=>[(65,.glob (GL mx)),(1,.box 24 (aC.c c [])),(3,vb s4)]) ?_ ?_
 ·rintro s4 h
  refine ag (ab ?_)
  refine aD h (fun (s8:Bool)=>[(65,.glob (GL mx)),(1,.box 24 (aC.c c [])),(3,vb s4),(4,vb s8)]) ?_ ?_
  ·rintro s8 h
   refine ag (ab ?_)
   refine aD h (fun (s14:Bool)=>[(65,.glob (GL mx)),(1,.box 24 (aC.c c [])),(3,vb s4),(4,vb s8),(5,vb s14)]) ?_ ?_
   ·rintro s14 h
    refine ag (ab ?_)
    refine aD h (fun (s18:Bool)=>[(65,.glob (GL mx)),(3,vb s4),(4,vb s8),(5,vb s14),(6,vb s18)]) ?_ ?_
    ·rintro s18 h
     refine ag (ab ?_)
     refine ab ?_
     refine aD h (fun (s22:Bool)=>[(65,.glob (GL mx)),(64,vb s22)]) ?_ ?_
     ·rintro s22 h
      refine ag ?_
      refine al _ rfl (fun hb26 => ?_) (fun hb26 => ?_)
      ·have h:=ap hb26 h
       refine aI hn 1 [65,2] ?_
       refine am ?_
       refine ah [1] (by kernel_rfl) (es':=[(_,_)]) rfl ?_
       refine ai ?_
       obtain rfl:=zi h
       exact ao hio rfl (.tmp _ _ .nil) rfl rfl
      ·have h:=aq hb26 h
       refine ar (ag ?_)
       refine aI hn 1 [65,2] ?_
       refine am ?_
       refine ah [1] (by kernel_rfl) (es':=[(_,_)]) rfl ?_
       obtain rfl:=zi h
       exact ao hio rfl (.tmp _ _ .nil) rfl rfl
     ·intro u23 h hl24 hr25
      refine ak h (fun hg5_2 h => ?_) (fun hg5_2 h => ?_)
      ·refine yx hn 3 ?_
       refine yd hg5_2 11 ?_
       refine ye [65,64] ?_
       exact hl24 _ (zi h).symm
      ·refine ak h (fun hg5_6 h => ?_) (fun hg5_6 h => ?_)
       ·refine yx hn 3 ?_
        refine yd hg5_2 4 ?_
        refine yd hg5_6 7 ?_
        refine ye [65,64] ?_
        exact hl24 _ (zi h).symm
       ·refine ak h (fun hg5_10 h => ?_) (fun hg5_10 h => ?_)
        ·refine yx hn 3 ?_
         refine yd hg5_2 4 ?_
         refine yd hg5_6 4 ?_
         refine yd hg5_10 3 ?_
         refine ye [65,64] ?_
         exact hl24 _ (zi h).symm
        ·refine yx hn 3 ?_
         refine yd hg5_2 4 ?_
         refine yd hg5_6 4 ?_
         refine yd hg5_10 3 ?_
         refine ye [65,64] ?_
         exact hl24 _ (zi h).symm
    ·intro u19 h hl20 hr21
     refine ak h (fun hg4_3 h => ?_) (fun hg4_3 h => ?_)
     ·refine yx hn 4 ?_
      refine yd hg4_3 5 ?_
      refine ye [65,3,4,5,6] ?_
      exact hl20 _ (zi h).symm
     ·refine yx hn 4 ?_
      refine yd hg4_3 5 ?_
      refine ye [65,3,4,5,6] ?_
      exact hl20 _ (zi h).symm
   ·intro u15 h hl16 hr17
    obtain ⟨v12,hv12,h⟩:=zn h
    refine ak h (fun hg3_3 h => ?_) (fun hg3_3 h => ?_)
    ·obtain ⟨v13,hv13,h⟩:=zn h
     refine yx hn 2 ?_
     refine ys 1 ⟨lk call57 (jW _ _ hv12)⟩ ?_
     refine yd hg3_3 2 ?_
     refine ys 2 ⟨lk call57 (jW _ _ hv13)⟩ ?_
     refine ye [65,1,3,4,5] ?_
     exact hl16 _ (zi h).symm
    ·refine yx hn 2 ?_
     refine ys 1 ⟨lk call57 (jW _ _ hv12)⟩ ?_
     refine yd hg3_3 5 ?_
     refine ye [65,1,3,4,5] ?_
     exact hl16 _ (zi h).symm
  ·intro u9 h hl10 hr11
   refine ak h (fun hg2_3 h => ?_) (fun hg2_3 h => ?_)
   ·refine yx hn 4 ?_
    refine yd hg2_3 5 ?_
    refine ye [65,1,3,4] ?_
    exact hl10 _ (zi h).symm
   ·refine yx hn 4 ?_
    refine yd hg2_3 5 ?_
    refine ye [65,1,3,4] ?_
    exact hl10 _ (zi h).symm
 ·intro u5 h hl6 hr7
  obtain ⟨v1,hv1,h⟩:=zn h
  refine ak h (fun hg1_4 h => ?_) (fun hg1_4 h => ?_)
  ·obtain ⟨v2,hv2,h⟩:=zn h
   refine ak h (fun hg1_10 h => ?_) (fun hg1_10 h => ?_)
   ·obtain ⟨v3,hv3,h⟩:=zn h
    refine yx hn 1 ?_
    refine yS (.ptr 1 0) 1 ⟨bH _ _ _ _ 2 1 0 0 1 underlying22 pW rfl rfl (by decide) (by decide)⟩ ?_
    refine ys 1 ⟨lg call55 (bG _ _ _ hv1) 65⟩ ?_
    refine yd hg1_4 1 ?_
    refine yS (.ptr 1 1) 1 ⟨bH _ _ _ _ 2 1 0 1 1 underlying22 pW rfl rfl (by decide) (by decide)⟩ ?_
    refine ys 2 ⟨lg call55 (bG _ _ _ hv2) 65⟩ ?_
    refine yd hg1_10 1 ?_
    refine yS (.ptr 1 0) 2 ⟨bH _ _ _ _ 2 1 0 0 1 underlying22 pW rfl rfl (by decide) (by decide)⟩ ?_
    refine yS (.ptr 1 1) 1 ⟨bH _ _ _ _ 2 1 0 1 1 underlying22 pW rfl rfl (by decide) (by decide)⟩ ?_
    refine ys 3 ⟨lk call56 (ja _ _ _ hv3)⟩ ?_
    refine ye [65,1,3] ?_
    exact hl6 _ (zi h).symm
   ·refine yx hn 1 ?_
    refine yS (.ptr 1 0) 1 ⟨bH _ _ _ _ 2 1 0 0 1 underlying22 pW rfl rfl (by decide) (by decide)⟩ ?_
    refine ys 1 ⟨lg call55 (bG _ _ _ hv1) 65⟩ ?_
    refine yd hg1_4 1 ?_
    refine yS (.ptr 1 1) 1 ⟨bH _ _ _ _ 2 1 0 1 1 underlying22 pW rfl rfl (by decide) (by decide)⟩ ?_
    refine ys 2 ⟨lg call55 (bG _ _ _ hv2) 65⟩ ?_
    refine yd hg1_10 10 ?_
    refine ye [65,1,3] ?_
    exact hl6 _ (zi h).symm
  ·refine yx hn 1 ?_
   refine yS (.ptr 1 0) 1 ⟨bH _ _ _ _ 2 1 0 0 1 underlying22 pW rfl rfl (by decide) (by decide)⟩ ?_
   refine ys 1 ⟨lg call55 (bG _ _ _ hv1) 65⟩ ?_
   refine yd hg1_4 16 ?_
   refine ye [65,1,3] ?_
   exact hl6 _ (zi h).symm
theorem mg (g:az) (r:Bool) (h:Sh.fa g=some r):bL Tryz.prog 36 [.agg [.v (.int .i64 g.ES),.v (.string g.EE),.v (.bool g.EA.EM),.v (.string g.EA.EI),.v (.string g.EA.Ex),.fl .shr 3 (flatten (map ae.enc g.To)),.v (.bool g.EU),.fl .shr 1 (map (int .u8) g.Eu),.v (.string g.Ev),.v (.bool g.ET)]] (.v (.bool r)):=by
 unfold Sh.fa at h
 refine yO 22 func36 fun g0 hn hio => ?_
 refine aI hn 2 [1] ?_
 refine ab ?_
 refine aD h (fun (s2:Bool)=>[(2,vb s2)]) ?_ ?_
 ·rintro s2 h
  refine ag (am ?_)
  obtain rfl:=zi h
  exact ao hio rfl (.tmp _ _ .nil) rfl rfl
 ·intro u3 h hl4 hr5
  refine ak h (fun hg1_3 h => ?_) (fun hg1_3 h => ?_)
  ·refine ak h (fun hg1_8 h => ?_) (fun hg1_8 h => ?_)
   ·refine ak h (fun hg1_14 h => ?_) (fun hg1_14 h => ?_)
    ·obtain ⟨v1,hv1,h⟩:=zn h
     refine yx hn 4 ?_
     refine yd hg1_3 5 ?_
     refine yd hg1_8 6 ?_
     refine yd hg1_14 2 ?_
     refine ys 2 ⟨lk call58 (lD _ _ _ hv1)⟩ ?_
     refine ye [2] ?_
     exact hl4 _ (zi h).symm
    ·refine yx hn 4 ?_
     refine yd hg1_3 5 ?_
     refine yd hg1_8 6 ?_
     refine yd hg1_14 5 ?_
     refine ye [2] ?_
     exact hl4 _ (zi h).symm
   ·refine yx hn 4 ?_
    refine yd hg1_3 5 ?_
    refine yd hg1_8 11 ?_
    refine ye [2] ?_
    exact hl4 _ (zi h).symm
  ·refine yx hn 4 ?_
   refine yd hg1_3 16 ?_
   refine ye [2] ?_
   exact hl4 _ (zi h).symm
theorem fT (l:(List ae)) (r:(List ae)) (h:Sh.cL l=some r):bL Tryz.prog 59 [.fl .shr 3 (flatten (map ae.enc l))] (.fl (.own 26) 3 (flatten (map ae.enc r))):=by
 unfold Sh.cL at h
 refine yO 5 func59 fun g0 hn hio => ?_
 refine aI hn 1 [0] ?_
 refine ab ?_
 obtain ⟨v1,hv1,h⟩:=zn h
 refine yx hn 1 ?_
 refine yS (.fl (.own 26) 3 (flatten (map ae.enc v1))) 0 ⟨mC _ _ _ _ Cx rfl rfl (iH ae.len _) hv1 (congrArg (fun l=>flatten (map _ l)) (mI hv1))⟩ ?_
 refine ya 0 ?_
 refine aT [2] ?_
 refine am ?_
 obtain rfl:=zi h
 exact ao hio rfl (.tmp _ _ .nil) rfl rfl
theorem mO (l:(List Int)) (r:(List Int)) (h:Sh.eX l=some r):bL Tryz.prog 60 [.fl .shr 1 (map (int .u8) l)] (.fl (.own 5) 1 (map (int .u8) r)):=by
 unfold Sh.eX at h
 refine yO 5 func60 fun g0 hn hio => ?_
 refine aI hn 1 [0] ?_
 refine ab ?_
 obtain ⟨v1,hv1,h⟩:=zn h
 refine yx hn 1 ?_
 refine yS (.fl (.own 5) 1 (map (int .u8) v1)) 0 ⟨mC _ _ _ _ ia rfl rfl (eF _) hv1 (congrArg (map _) (mI hv1))⟩ ?_
 refine ya 0 ?_
 refine aT [2] ?_
 refine am ?_
 obtain rfl:=zi h
 exact ao hio rfl (.tmp _ _ .nil) rfl rfl
theorem me (g:az) (r:az) (h:Sh.gA g=some r):bL Tryz.prog 37 [.agg [.v (.int .i64 g.ES),.v (.string g.EE),.v (.bool g.EA.EM),.v (.string g.EA.EI),.v (.string g.EA.Ex),.fl .shr 3 (flatten (map ae.enc g.To)),.v (.bool g.EU),.fl .shr 1 (map (int .u8) g.Eu),.v (.string g.Ev),.v (.bool g.ET)]] (.agg [.v (.int .i64 r.ES),.v (.string r.EE),.v (.bool r.EA.EM),.v (.string r.EA.EI),.v (.string r.EA.Ex),.fl (.own 26) 3 (flatten (map ae.enc r.To)),.v (.bool r.EU),.fl (.own 5) 1 (map (int .u8) r.Eu),.v (.string r.Ev),.v (.bool r.ET)]):=by
 unfold Sh.gA at h
 refine yO 12 func37 fun g0 hn hio => ?_
 refine eC hn 1 ?_
 refine yS (.box 30 [vi 0,vs z0,vb false,vs z0,vs z0,vz,vb false,vz,vs z0,vb false]) 0 ⟨oA (aP _ _ qI)⟩ ?_
 refine aT [1,2] ?_
 refine ab ?_
 obtain ⟨v1,hv1,h⟩:=zn h
 refine yx hn 2 ?_
 refine ys 1 ⟨lk call59 (fT _ _ hv1)⟩ ?_
 refine yk [5,1] [6] ?_
 refine yt (1,.box 30 [vi g.ES,vs g.EE,vb g.EA.EM,vs g.EA.EI,vs g.EA.Ex,.fl (.own 26) 3 (flatten (map ae.enc v1)),vb g.EU,fb g.Eu,vs g.Ev,vb g.ET]) 0 ⟨aK _ _ _ _ _ _ _ _ Cb rfl rfl rfl (zl rfl) rfl rfl⟩ ?_
 refine aT [1,2] ?_
 refine ab ?_
 obtain ⟨v2,hv2,h⟩:=zn h
 refine yx hn 2 ?_
 refine ys 1 ⟨lk call60 (mO _ _ hv2)⟩ ?_
 refine yk [9,1] [10] ?_
 refine yt (1,.box 30 [vi g.ES,vs g.EE,vb g.EA.EM,vs g.EA.EI,vs g.EA.Ex,.fl (.own 26) 3 (flatten (map ae.enc v1)),vb g.EU,.fl (.own 5) 1 (map (int .u8) v2),vs g.Ev,vb g.ET]) 0 ⟨aK _ _ _ _ _ _ _ _ jh rfl rfl rfl (zl rfl) rfl rfl⟩ ?_
 refine aT [1,2] ?_
 refine eC hn 0 ?_
 refine yk [1] [] ?_
 refine yt (11,.agg [vi g.ES,vs g.EE,vb g.EA.EM,vs g.EA.EI,vs g.EA.Ex,.fl (.own 26) 3 (flatten (map ae.enc v1)),vb g.EU,.fl (.own 5) 1 (map (int .u8) v2),vs g.Ev,vb g.ET]) 0 ⟨mb _ _ _ _ underlying30 rfl nq rfl rfl⟩ ?_
 refine yk [11,2] [] ?_
 refine yt (2,.box 30 [vi g.ES,vs g.EE,vb g.EA.EM,vs g.EA.EI,vs g.EA.Ex,.fl (.own 26) 3 (flatten (map ae.enc v1)),vb g.EU,.fl (.own 5) 1 (map (int .u8) v2),vs g.Ev,vb g.ET]) 0 ⟨aK _ _ _ _ _ _ _ _ nq rfl rfl rfl (zl rfl) rfl rfl⟩ ?_
 refine aT [2] ?_
 refine am ?_
 obtain rfl:=zi h
 exact ao hio rfl (.cellA _ _ _ _ underlying30 rfl nq .nil) rfl rfl
theorem kX (a:(List Int)) (b:(List Int)) (r:Bool) (h:Sh.gP a b=some r):bL Tryz.prog 72 [.fl .shr 1 (map (int .u8) a),.fl .shr 1 (map (int .u8) b)] (.v (.bool r)):=by
 unfold Sh.gP at h
 refine yO 10 func72 fun g0 hn hio => ?_
 refine aI hn 1 [0,1] ?_
 refine ab ?_
 obtain ⟨v1,hv1,h⟩:=zn h
 obtain ⟨v2,hv2,h⟩:=zn h
 refine yx hn 1 ?_
 refine ys 1 ⟨lS hv1⟩ ?_
 refine ys 2 ⟨lS hv2⟩ ?_
 refine aT [4] ?_
 refine am ?_
 obtain rfl:=zi h
 exact ao hio rfl (.tmp _ _ .nil) rfl rfl
theorem mw (s:(List Int)) (suffix:(List Int)) (r:Bool) (h:Sh.dM s suffix=some r):bL Tryz.prog 61 [.fl .shr 1 (map (int .u8) s),.fl .shr 1 (map (int .u8) suffix)] (.v (.bool r)):=by
 unfold Sh.dM at h
 refine yO 21 func61 fun g0 hn hio => ?_
 refine aI hn 1 [0,1] ?_
 refine ab ?_
 refine aD h (fun (s4:Bool)=>[(4,vb s4)]) ?_ ?_
 ·rintro s4 h
  refine ag (am ?_)
  obtain rfl:=zi h
  exact ao hio rfl (.tmp _ _ .nil) rfl rfl
 ·intro u5 h hl6 hr7
  refine ak h (fun hg1_5 h => ?_) (fun hg1_5 h => ?_)
  ·obtain ⟨v1,hv1,h⟩:=zn h
   obtain ⟨v2,hv2,h⟩:=zn h
   obtain ⟨v3,hv3,h⟩:=zn h
   refine yx hn 6 ?_
   refine yd hg1_5 5 ?_
   refine ys 0 ⟨lb hv1⟩ ?_
   refine yS (fb v2) 1 ⟨kK _ _ _ v1 (s.length:Int) _ underlying28 jA rfl rfl ⟨_,rfl⟩ rfl hv2⟩ ?_
   refine ys 2 ⟨lk call72 (kX _ _ _ hv3)⟩ ?_
   refine ye [4] ?_
   exact hl6 _ (zi h).symm
  ·refine yx hn 6 ?_
   refine yd hg1_5 11 ?_
   refine ye [4] ?_
   exact hl6 _ (zi h).symm
theorem ji (s:aa) (x:Int) (r:(Bool×aa)) (h:Sh.bm s x=some r):mr Tryz.prog 38 [.box 80 (aa.b s),.v (.int .u8 x)] [.box 80 (aa.b r.2)] (.v (.bool r.1)):=by
 unfold Sh.bm at h
 refine yP 39 func38 fun args0 hargs0 g0 hn hio => ?_
 refine aI hn 1 [0,1,0] ?_
 refine ab ?_
 refine aI hn 6 [0,1,10,0] ?_
 refine al _ rfl (fun hb1 => ?_) (fun hb1 => ?_)
 ·have h:=ap hb1 h
  refine ab ?_
  refine aD h (fun (s4:Bool)=>[(0,.box 80 (aa.b s)),(4,vb s4),(0,.v (List.getD args0 0 undef))]) ?_ ?_
  ·rintro s4 h
   refine ag (am ?_)
   refine ah [1,0,2] (by kernel_rfl) (es':=[(_,_),(_,_),(_,_)]) rfl ?_
   refine ai ?_
   obtain rfl:=zi h
   exact bo (es:=[(4,.v (.bool s4))]) (posts:=[.box 80 (aa.b s)]) hio rfl rfl (.tmp _ _ .nil) rfl rfl hargs0 rfl
  ·intro u5 h hl6 hr7
   obtain ⟨v2,hv2,h⟩:=zn h
   refine ak h (fun hg2_7 h => ?_) (fun hg2_7 h => ?_)
   ·refine yx hn 5 ?_
    refine ys 2 ⟨lM hv2⟩ ?_
    refine yd hg2_7 10 ?_
    refine ye [0,4,0] ?_
    exact hl6 _ (zi h).symm
   ·obtain ⟨v3,hv3,h⟩:=zn h
    refine yx hn 5 ?_
    refine ys 2 ⟨lM hv2⟩ ?_
    refine yd hg2_7 5 ?_
    refine yS (.fl (.own 5) 1 (map (int .u8) [13,10,46,13,10])) 0 ⟨bb _ _ 1 (.int .u8 0) (map (int .u8) [13,10,46,13,10]) [(0,.int .u8 13),(1,.int .u8 10),(2,.int .u8 46),(3,.int .u8 13),(4,.int .u8 10)] underlying28 jA rb (fun _ V w o a hv hes=>by simp only [List.map_toArray,List.map_cons,List.map_nil]; try rfl) (cn (by simp [Instr.fill,Value.cells]; rfl) (by simp [List.range,List.range.loop] <;> rfl)) (by simp [Value.oneCell']) rfl (by decide) (by decide) (by decide)⟩ ?_
    refine yk [24] [] ?_
    refine yt (25,.fl .ro 1 (map (int .u8) [13,10,46,13,10])) 0 ⟨eE _ _ _ underlying28 underlying5 (by intro h; cases h)⟩ ?_
    refine ys 2 ⟨lk call61 (mw _ _ _ hv3)⟩ ?_
    refine ye [0,4,0] ?_
    exact hl6 _ (zi h).symm
 ·have h:=aq hb1 h
  refine ar ?_
  refine ag (ab ?_)
  refine aD h (fun (s8:Bool)=>[(0,.box 80 (aa.b s)),(4,vb s8),(0,.v (List.getD args0 0 undef))]) ?_ ?_
  ·rintro s8 h
   refine ag (am ?_)
   refine ah [1,0,2] (by kernel_rfl) (es':=[(_,_),(_,_),(_,_)]) rfl ?_
   obtain rfl:=zi h
   exact bo (es:=[(4,.v (.bool s8))]) (posts:=[.box 80 (aa.b s)]) hio rfl rfl (.tmp _ _ .nil) rfl rfl hargs0 rfl
  ·intro u9 h hl10 hr11
   refine ak h (fun hg3_2 h => ?_) (fun hg3_2 h => ?_)
   ·refine yx hn 3 ?_
    refine yd hg3_2 9 ?_
    refine ye [0,4,0] ?_
    exact hl10 _ (zi h).symm
   ·refine yx hn 3 ?_
    refine yd hg3_2 5 ?_
    refine yS (vi (s.EB.Eu.length:Int)) 3 ⟨lO _ _ _ underlying28 rfl (List.length_map _)⟩ ?_
    refine ye [0,4,0] ?_
    exact hl10 _ (zi h).symm
theorem eS (b:(List Int)) (r:(List Int)) (h:Sh.eo b=some r):bL Tryz.prog 96 [.fl .shr 1 (map (int .u8) b)] (.cloB 123 [.box 28 [.fl .shr 1 (map (int .u8) r)]]):=by
 unfold Sh.eo at h
 refine yO 4 func96 fun g0 hn hio => ?_
 refine aI hn 2 [1] ?_
 refine eC hn 0 ?_
 refine yk [1] [] ?_
 refine yt (3,.cloB 123 [.box 28 [fb b]]) 0 ⟨tF _ _ [1] [.box 28 [fb b]] rfl rfl rfl⟩ ?_
 refine ya 0 ?_
 refine aT [2] ?_
 refine am ?_
 obtain rfl:=zi h
 exact ao hio rfl (.tmp _ _ .nil) rfl rfl
theorem pB (mx:Int×Nat×Value) (s sep:List Int) (r:Int) (h:Sh.ft s sep=some r):fk Tryz.prog (GL mx) 89 [.fl .shr 1 (map (int .u8) s),.fl .shr 1 (map (int .u8) sep)] (.v (.int .i64 r)) :=
 pm (sb mx) Tryz.bytes_Index_at Tryz.bytes_Index_longer s sep r h
theorem pp (mx:Int×Nat×Value) (s:(List Int)) (sep:(List Int)) (r:((List Int)×(List Int)×Bool)) (h:Sh.da s sep=some r):fk Tryz.prog (GL mx) 74 [.fl .shr 1 (map (int .u8) s),.fl .shr 1 (map (int .u8) sep)] (.tup [.fl .shr 1 (map (int .u8) r.1),.fl .shr 1 (map (int .u8) r.2.1),.v (.bool r.2.2)]):=by
 unfold Sh.da at h
 refine yG 23 func74 fun g0 hn hio => ?_
 refine aI hn 3 [0,1,23] ?_
 refine ab (ab ?_)
 obtain ⟨v1,hv1,h⟩:=zn h
 refine yx hn 2 ?_
 refine ys 1 ⟨lg call89 (pB _ _ _ _ hv1) 23⟩ ?_
 refine aT [0,1,23,7] ?_
 refine aI hn 2 [0,1,23,7,12] ?_
 refine al _ rfl (fun hb2 => ?_) (fun hb2 => ?_)
 ·have h:=ap hb2 h
  refine ab ?_
  obtain ⟨v3,hv3,h⟩:=zn h
  obtain ⟨v4,hv4,h⟩:=zn h
  obtain ⟨v5,hv5,h⟩:=zn h
  refine wb [[0],[7]] ?_
  refine wN [13,14] ?_
  refine wS (fb v3) [[0],[7],[1],[18]] ⟨kK _ _ _ 0 v1 _ underlying28 jA rfl rfl rfl ⟨_,rfl⟩ hv3⟩ ?_
  refine wN [17,19] ?_
  refine wo [] ⟨lb hv4⟩ ?_
  refine wN [16,20] ?_
  refine wS (fb v5) [[15],[21],[]] ⟨kK _ _ _ v4 (s.length:Int) _ underlying28 jA rfl rfl ⟨_,rfl⟩ rfl hv5⟩ ?_
  refine qR hn [23,4,5,6] ?_
  refine am ?_
  refine ah [1,2,3] (by kernel_rfl) (es':=[(_,_),(_,_),(_,_)]) rfl ?_
  refine ai ?_
  obtain rfl:=zi h
  exact ao hio rfl (.tmp _ _ (.tmp _ _ (.tmp _ _ .nil))) rfl rfl
 ·have h:=aq hb2 h
  refine ar (ag ?_)
  refine aI hn 4 [23,4,5,6] ?_
  refine am ?_
  refine ah [1,2,3] (by kernel_rfl) (es':=[(_,_),(_,_),(_,_)]) rfl ?_
  refine bT (fs:=[(4,fb s),(5,fb []),(6,vb false)]) (.same _ (.sub _ (tU 1) rfl (.same _ .nil))) ?_
  obtain rfl:=zi h
  exact ao hio rfl (.tmp _ _ (.tmp _ _ (.tmp _ _ .nil))) rfl rfl
end Go.Proofs.YtjnnkhmhjcjhdaaGreatDoor
