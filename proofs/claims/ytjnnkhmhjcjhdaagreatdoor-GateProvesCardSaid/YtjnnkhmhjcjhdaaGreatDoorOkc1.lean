import Derived.Test.YtjnnkhmhjcjhdaaGreatDoorShelf
import Derived.Test.YtjnnkhmhjcjhdaaGreatDoorIdx
import Derived.Test.YtjnnkhmhjcjhdaaGreatDoorSh
set_option linter.unusedVariables false
set_option linter.unusedSimpArgs false
set_option maxHeartbeats 1000000
namespace Go.Proofs.YtjnnkhmhjcjhdaaGreatDoor
open Go.Abs Go.Abs.Sh Tryz
open List (map flatten)
open Value (int)
def GL (mx:Int×Nat×Value):List (Nat×List Value):=[(0,[.int .i64 mx.1]),(1,(List.map (Value.int .u8) gI)),(2,(List.map (Value.int .u8) jk)),(3,[.iface mx.2.1 mx.2.2]),(5,(List.map (Value.int .u32) cj)),(6,(List.map (Value.int .i64) eK)),(7,(List.map (Value.int .u64) gf))]
theorem uU (mx:Int×Nat×Value):(0,([.int .i64 mx.1]:List Value))∈GL mx := .head _
theorem zA (mx:Int×Nat×Value):(1,((List.map (Value.int .u8) gI):List Value))∈GL mx := .tail _ (.head _)
theorem Ea (mx:Int×Nat×Value):(2,((List.map (Value.int .u8) jk):List Value))∈GL mx := .tail _ (.tail _ (.head _))
theorem Eb (mx:Int×Nat×Value):(3,([.iface mx.2.1 mx.2.2]:List Value))∈GL mx := .tail _ (.tail _ (.tail _ (.head _)))
theorem CM (mx:Int×Nat×Value):(5,((List.map (Value.int .u32) cj):List Value))∈GL mx := .tail _ (.tail _ (.tail _ (.tail _ (.head _))))
theorem Dd (mx:Int×Nat×Value):(6,((List.map (Value.int .i64) eK):List Value))∈GL mx := .tail _ (.tail _ (.tail _ (.tail _ (.tail _ (.head _)))))
theorem Do (mx:Int×Nat×Value):(7,((List.map (Value.int .u64) gf):List Value))∈GL mx := .tail _ (.tail _ (.tail _ (.tail _ (.tail _ (.tail _ (.head _))))))
instance iUD9:UD Tryz.prog 9 .string:=⟨Tryz.underlying9⟩
instance iUD5:UD Tryz.prog 5 (.int .u8):=⟨Tryz.underlying5⟩
instance iUD3:UD Tryz.prog 3 (.int .i64):=⟨Tryz.underlying3⟩
instance iUD39:UD Tryz.prog 39 (.int .u64):=⟨Tryz.underlying39⟩
theorem qT:((Tryz.prog.info? 91).bind (·.zero)).map (·.cells.toList)=some (List.map (Value.int .u8) (List.replicate 16 (0:Int))):=by kernel_rfl
theorem fQ:fS Tryz.prog 28 5 1 1:=⟨⟨Tryz.t5,.int .u8 0,Tryz.underlying28,by kernel_rfl,by kernel_rfl,by kernel_rfl,by kernel_rfl,by decide,by kernel_rfl⟩⟩
instance iUD28:UD Tryz.prog 28 (.slice 5):=⟨Tryz.underlying28⟩
theorem jx:(Tryz.prog.info? 5).map (·.size)=some 1:=by kernel_rfl
theorem qD:(Tryz.prog.info? 5).bind (·.zero)=some (.int .u8 0):=by kernel_rfl
instance iUD105:UD Tryz.prog 105 (.int .u64):=⟨Tryz.underlying105⟩
theorem eH:(Tryz.prog.info? 106).map (·.size)=some 1:=by kernel_rfl
theorem EG:(Tryz.prog.info? 106).bind (·.zero)=some (.int .u32 0):=by kernel_rfl
instance iUD107:UD Tryz.prog 107 (.slice 106):=⟨Tryz.underlying107⟩
instance iSZ106:SZ Tryz.prog 106 1:=⟨by kernel_rfl⟩
instance iAG106:AS Tryz.prog 106:=⟨by kernel_rfl⟩
instance iSZ5:SZ Tryz.prog 5 1:=⟨by kernel_rfl⟩
instance iAG5:AS Tryz.prog 5:=⟨by kernel_rfl⟩
instance iUD106:UD Tryz.prog 106 (.int .u32):=⟨Tryz.underlying106⟩
theorem It:(Tryz.prog.info? 39).map (·.size)=some 1:=by kernel_rfl
theorem Iz:(Tryz.prog.info? 39).bind (·.zero)=some (.int .u64 0):=by kernel_rfl
instance iUD126:UD Tryz.prog 126 (.slice 39):=⟨Tryz.underlying126⟩
instance iSZ39:SZ Tryz.prog 39 1:=⟨by kernel_rfl⟩
instance iAG39:AS Tryz.prog 39:=⟨by kernel_rfl⟩
theorem nH:(Tryz.prog.info? 91).map (·.size)=some 16:=by kernel_rfl
theorem FZ:(Tryz.prog.info? 24).bind (·.zero)=some (.agg #[.string ByteArray.empty,.string ByteArray.empty,.int .i64 0,.string ByteArray.empty,.string ByteArray.empty,.int .i64 0,.bool false]):=by kernel_rfl
theorem tb:(Tryz.prog.info? 9).map (·.size)=some 1:=by kernel_rfl
theorem HX:(Tryz.prog.info? 22).bind (·.zero)=some (.agg #[.string ByteArray.empty,.string ByteArray.empty]):=by kernel_rfl
theorem Hp:∀ fs,Tryz.prog.underlying 24=some (.struct fs)→fs.toList.map (fun f=>(Tryz.prog.info? f.type).map (·.size))=([2,1,1,1,1,1]:List Nat).map some:=by
 intro fs h
 rw [Tryz.underlying24] at h
 cases h
 kernel_rfl
theorem FU:(Tryz.prog.info? 24).map (·.size)=some 7:=by kernel_rfl
instance iAG24:AA Tryz.prog 24 7:=⟨by kernel_rfl⟩
theorem Gp:(Tryz.prog.info? 22).map (·.size)=some 2:=by kernel_rfl
theorem uK:(Tryz.prog.info? 30).bind (·.zero)=some (.agg #[.int .i64 0,.string ByteArray.empty,.bool false,.string ByteArray.empty,.string ByteArray.empty,.slice none 0 0,.bool false,.slice none 0 0,.string ByteArray.empty,.bool false]):=by kernel_rfl
theorem EN:∀ fs,Tryz.prog.underlying 30=some (.struct fs)→fs.toList.map (fun f=>(Tryz.prog.info? f.type).map (·.size))=([1,1,3,1,1,1,1,1]:List Nat).map some:=by
 intro fs h
 rw [Tryz.underlying30] at h
 cases h
 kernel_rfl
theorem rV:(Tryz.prog.info? 30).map (·.size)=some 10:=by kernel_rfl
instance iAG30:AA Tryz.prog 30 10:=⟨by kernel_rfl⟩
theorem GW:(Tryz.prog.info? 4).bind (·.zero)=some (.bool false):=by kernel_rfl
instance iAG9:AS Tryz.prog 9:=⟨by kernel_rfl⟩
instance iUD21:UD Tryz.prog 21 (.int .i32):=⟨Tryz.underlying21⟩
instance iAG3:AS Tryz.prog 3:=⟨by kernel_rfl⟩
instance iAG65:AS Tryz.prog 65:=⟨by kernel_rfl⟩
theorem IY:(Tryz.prog.info? 4).map (·.size)=some 1:=by kernel_rfl
instance iAG4:AS Tryz.prog 4:=⟨by kernel_rfl⟩
instance iFO24_0:FO Tryz.prog 24 0 0:=⟨by kernel_rfl⟩
theorem Fs:(Tryz.prog.info? 3).map (·.size)=some 1:=by kernel_rfl
instance iFO24_1:FO Tryz.prog 24 1 2:=⟨by kernel_rfl⟩
instance iFO24_2:FO Tryz.prog 24 2 3:=⟨by kernel_rfl⟩
instance iFO24_3:FO Tryz.prog 24 3 4:=⟨by kernel_rfl⟩
instance iFO24_4:FO Tryz.prog 24 4 5:=⟨by kernel_rfl⟩
instance iFO30_0:FO Tryz.prog 30 0 0:=⟨by kernel_rfl⟩
instance iFO30_6:FO Tryz.prog 30 6 8:=⟨by kernel_rfl⟩
theorem Gt:(Tryz.prog.info? 27).map (·.size)=some 1:=by kernel_rfl
theorem FV:fS Tryz.prog 27 26 3 40:=⟨⟨Tryz.t26,.agg #[.bool false,.string ByteArray.empty,.string ByteArray.empty],Tryz.underlying27,by kernel_rfl,by kernel_rfl,by kernel_rfl,by kernel_rfl,by decide,by kernel_rfl⟩⟩
instance iFO30_3:FO Tryz.prog 30 3 5:=⟨by kernel_rfl⟩
instance iAG27:AS Tryz.prog 27:=⟨by kernel_rfl⟩
theorem kG:(Tryz.prog.info? 28).map (·.size)=some 1:=by kernel_rfl
instance iFO30_5:FO Tryz.prog 30 5 7:=⟨by kernel_rfl⟩
instance iAG28:AS Tryz.prog 28:=⟨by kernel_rfl⟩
theorem Io:∀ fs,Tryz.prog.underlying 80=some (.struct fs)→fs.toList.map (fun f=>(Tryz.prog.info? f.type).map (·.size))=([10,7,1,1,1]:List Nat).map some:=by
 intro fs h
 rw [Tryz.underlying80] at h
 cases h
 kernel_rfl
theorem Ia:(Tryz.prog.info? 80).bind (·.zero)=some (.agg #[.int .i64 0,.string ByteArray.empty,.bool false,.string ByteArray.empty,.string ByteArray.empty,.slice none 0 0,.bool false,.slice none 0 0,.string ByteArray.empty,.bool false,.string ByteArray.empty,.string ByteArray.empty,.int .i64 0,.string ByteArray.empty,.string ByteArray.empty,.int .i64 0,.bool false,.int .i64 0,.int .i64 0,.slice none 0 0]):=by kernel_rfl
instance iFO80_0:FO Tryz.prog 80 0 0:=⟨by kernel_rfl⟩
abbrev aa.b (x:aa):List AV:=[.v (.int .i64 x.Jj.Jz),.v (.string x.Jj.Jm),.v (.bool x.Jj.Ji.Ju),.v (.string x.Jj.Ji.Jq),.v (.string x.Jj.Ji.Jf),.fl (.own 26) 3 (List.flatten (List.map ah.enc x.Jj.To)),.v (.bool x.Jj.JB),.mkr 5 (List.map (Value.int .u8) x.Jj.Jc),.v (.string x.Jj.Jd),.v (.bool x.Jj.JA),.v (.string ((x.config.Jg.getD 0 (⟨#[]⟩:JH)))),.v (.string ((x.config.Jg.getD 1 (⟨#[]⟩:JH)))),.v (.int .i64 x.config.Jh),.v (.string x.config.JF),.v (.string x.config.JD),.v (.int .i64 x.config.Jr),.v (.bool x.config.Jl),.v (.int .i64 x.site),.v (.int .i64 x.at_),.fr (.own 55) false 12 (List.flatten (List.map aA.ienc x.out))]
theorem DR:(Tryz.prog.info? 28).bind (·.zero)=some (.slice none 0 0):=by kernel_rfl
theorem HV:(Tryz.prog.info? 3).bind (·.zero)=some (.int .i64 0):=by kernel_rfl
theorem Hh:(Tryz.prog.info? 35).bind (·.zero)=some (.int .i64 0):=by kernel_rfl
instance iAG35:AS Tryz.prog 35:=⟨by kernel_rfl⟩
theorem Dm:(Tryz.prog.info? 51).bind (·.zero)=some (.agg #[.int .i64 0,.slice none 0 0]):=by kernel_rfl
theorem En:(Tryz.prog.info? 153).bind (·.zero)=some (.agg #[.pointer none,.slice none 0 0]):=by kernel_rfl
theorem GT:(Tryz.prog.info? 9).bind (·.zero)=some (.string ByteArray.empty):=by kernel_rfl
theorem Gw:∀ fs,Tryz.prog.underlying 51=some (.struct fs)→fs.toList.map (fun f=>(Tryz.prog.info? f.type).map (·.size))=([1,1]:List Nat).map some:=by
 intro fs h
 rw [Tryz.underlying51] at h
 cases h
 kernel_rfl
theorem Dc:(Tryz.prog.info? 51).map (·.size)=some 2:=by kernel_rfl
theorem BN:∀ fs,Tryz.prog.underlying 55=some (.struct fs)→fs.toList.map (fun f=>(Tryz.prog.info? f.type).map (·.size))=([2,1,8,1]:List Nat).map some:=by
 intro fs h
 rw [Tryz.underlying55] at h
 cases h
 kernel_rfl
theorem tn:(Tryz.prog.info? 55).bind (·.zero)=some (.agg #[.int .i64 0,.slice none 0 0,.bool false,.bool false,.string ByteArray.empty,.string ByteArray.empty,.slice none 0 0,.slice none 0 0,.bool false,.string ByteArray.empty,.int .i64 0,.bool false]):=by kernel_rfl
theorem wG:(Tryz.prog.info? 55).map (·.size)=some 12:=by kernel_rfl
theorem vE:(Tryz.prog.info? 26).map (·.size)=some 3:=by kernel_rfl
theorem Iv:∀ fs,Tryz.prog.underlying 53=some (.struct fs)→fs.toList.map (fun f=>(Tryz.prog.info? f.type).map (·.size))=([3,1,1,1,1,1]:List Nat).map some:=by
 intro fs h
 rw [Tryz.underlying53] at h
 cases h
 kernel_rfl
theorem BF:(Tryz.prog.info? 53).bind (·.zero)=some (.agg #[.bool false,.string ByteArray.empty,.string ByteArray.empty,.slice none 0 0,.slice none 0 0,.bool false,.string ByteArray.empty,.int .i64 0]):=by kernel_rfl
theorem Bq:(Tryz.prog.info? 53).map (·.size)=some 8:=by kernel_rfl
instance iFO30_2:FO Tryz.prog 30 2 2:=⟨by kernel_rfl⟩
instance iAG26:AA Tryz.prog 26 3:=⟨by kernel_rfl⟩
theorem Iu:∀ fs,Tryz.prog.underlying 62=some (.struct fs)→fs.toList.map (fun f=>(Tryz.prog.info? f.type).map (·.size))=([1,1,1]:List Nat).map some:=by
 intro fs h
 rw [Tryz.underlying62] at h
 cases h
 kernel_rfl
theorem HZ:(Tryz.prog.info? 62).bind (·.zero)=some (.agg #[.int .i64 0,.int .i64 0,.slice none 0 0]):=by kernel_rfl
instance iFO62_0:FO Tryz.prog 62 0 0:=⟨by kernel_rfl⟩
instance iFO62_1:FO Tryz.prog 62 1 1:=⟨by kernel_rfl⟩
instance iFO62_2:FO Tryz.prog 62 2 2:=⟨by kernel_rfl⟩
instance iAG60:AS Tryz.prog 60:=⟨by kernel_rfl⟩
instance iUD60:UD Tryz.prog 60 (.slice 53):=⟨Tryz.underlying60⟩
instance iLiT_Mail:LenI bf.ienc 8:=⟨bf.ilen⟩
instance iSZ53:SZ Tryz.prog 53 8:=⟨by kernel_rfl⟩
instance iAG53:AA Tryz.prog 53 8:=⟨by kernel_rfl⟩
theorem BA:∀ fs,Tryz.prog.underlying 26=some (.struct fs)→fs.toList.map (fun f=>(Tryz.prog.info? f.type).map (·.size))=([1,1,1]:List Nat).map some:=by
 intro fs h
 rw [Tryz.underlying26] at h
 cases h
 kernel_rfl
theorem rF:(Tryz.prog.info? 26).bind (·.zero)=some (.agg #[.bool false,.string ByteArray.empty,.string ByteArray.empty]):=by kernel_rfl
instance iFO26_0:FO Tryz.prog 26 0 0:=⟨by kernel_rfl⟩
instance iFO26_1:FO Tryz.prog 26 1 1:=⟨by kernel_rfl⟩
instance iFO26_2:FO Tryz.prog 26 2 2:=⟨by kernel_rfl⟩
instance iFO53_0:FO Tryz.prog 53 0 0:=⟨by kernel_rfl⟩
instance iFO53_1:FO Tryz.prog 53 1 3:=⟨by kernel_rfl⟩
instance iUD27:UD Tryz.prog 27 (.slice 26):=⟨Tryz.underlying27⟩
instance iLT_Path:LenE ah.enc 3:=⟨ah.len⟩
instance iSZ26:SZ Tryz.prog 26 3:=⟨by kernel_rfl⟩
instance iFO53_2:FO Tryz.prog 53 2 4:=⟨by kernel_rfl⟩
instance iFO53_3:FO Tryz.prog 53 3 5:=⟨by kernel_rfl⟩
instance iFO53_4:FO Tryz.prog 53 4 6:=⟨by kernel_rfl⟩
instance iFO53_5:FO Tryz.prog 53 5 7:=⟨by kernel_rfl⟩
instance iAG62:AA Tryz.prog 62 3:=⟨by kernel_rfl⟩
theorem zw:((Tryz.prog.info? 222).bind (·.zero)).map (·.cells.toList)=some (List.map (Value.int .u32) (List.replicate 16 (0:Int))):=by kernel_rfl
theorem yo:(Tryz.prog.info? 222).map (·.size)=some 16:=by kernel_rfl
instance iUD31:UD Tryz.prog 31 (.slice 3):=⟨Tryz.underlying31⟩
instance iSZ3:SZ Tryz.prog 3 1:=⟨by kernel_rfl⟩
instance iFO30_4:FO Tryz.prog 30 4 6:=⟨by kernel_rfl⟩
instance iFO30_1:FO Tryz.prog 30 1 1:=⟨by kernel_rfl⟩
instance iFO80_3:FO Tryz.prog 80 3 18:=⟨by kernel_rfl⟩
instance iAG55:AA Tryz.prog 55 12:=⟨by kernel_rfl⟩
theorem GO:(Tryz.prog.info? 137).bind (·.zero)=some (.slice none 0 0):=by kernel_rfl
theorem Gl:fS Tryz.prog 137 28 1 24:=⟨⟨Tryz.t28,.slice none 0 0,Tryz.underlying137,by kernel_rfl,by kernel_rfl,by kernel_rfl,by kernel_rfl,by decide,by kernel_rfl⟩⟩
theorem GP:(Tryz.prog.info? 137).map (·.size)=some 1:=by kernel_rfl
instance iAG137:AS Tryz.prog 137:=⟨by kernel_rfl⟩
instance iUD137:UD Tryz.prog 137 (.slice 28):=⟨Tryz.underlying137⟩
instance iLiRow_int_u8:LenI Row_int_u8.ienc 1:=⟨Row_int_u8.ilen⟩
instance iSZ28:SZ Tryz.prog 28 1:=⟨by kernel_rfl⟩
theorem Fw:(Tryz.prog.info? 34).map (·.size)=some 1:=by kernel_rfl
theorem EU:fS Tryz.prog 34 55 12 168:=⟨⟨Tryz.t55,.agg #[.int .i64 0,.slice none 0 0,.bool false,.bool false,.string ByteArray.empty,.string ByteArray.empty,.slice none 0 0,.slice none 0 0,.bool false,.string ByteArray.empty,.int .i64 0,.bool false],Tryz.underlying34,by kernel_rfl,by kernel_rfl,by kernel_rfl,by kernel_rfl,by decide,by kernel_rfl⟩⟩
instance iFO80_4:FO Tryz.prog 80 4 19:=⟨by kernel_rfl⟩
instance iAG34:AS Tryz.prog 34:=⟨by kernel_rfl⟩
theorem DS:Ex Tryz.prog 74 0:=fun p1 p2 n c1 k c2 xs ys m w hx hy hr1 hr2 h1 h2 hp1 hcap hs hk hm=>Tryz.bytes_Cut_all p1 p2 n c1 k c2 xs ys m w hx hy hr1 hr2 h1 h2 hp1 hcap hs hk hm
theorem Gb:((Tryz.prog.info? 205).bind (·.zero)).map (·.cells.toList)=some (List.map (Value.int .u8) (List.replicate 64 (0:Int))):=by kernel_rfl
theorem EI:(Tryz.prog.info? 225).bind (·.zero)=some (.agg #[.int .u32 0,.int .u32 0,.int .u32 0,.int .u32 0]):=by kernel_rfl
theorem Ei:((Tryz.prog.info? 225).bind (·.zero)).map (·.cells.toList)=some (List.map (Value.int .u32) (List.replicate 4 (0:Int))):=by kernel_rfl
theorem rL:(Tryz.prog.info? 225).map (·.size)=some 4:=by kernel_rfl
theorem GN:(Tryz.prog.info? 241).map (·.size)=some 64:=by kernel_rfl
theorem Gv:(Tryz.prog.info? 244).map (·.size)=some 4:=by kernel_rfl
theorem Gz:(Tryz.prog.info? 205).map (·.size)=some 64:=by kernel_rfl
instance iFO80_1:FO Tryz.prog 80 1 10:=⟨by kernel_rfl⟩
instance iFO30_7:FO Tryz.prog 30 7 9:=⟨by kernel_rfl⟩
theorem kO:(Tryz.prog.info? 122).bind (·.zero)=some (.agg #[.int .i64 0,.string ByteArray.empty,.bool false,.string ByteArray.empty,.string ByteArray.empty,.slice none 0 0]):=by kernel_rfl
theorem sE:∀ fs,Tryz.prog.underlying 122=some (.struct fs)→fs.toList.map (fun f=>(Tryz.prog.info? f.type).map (·.size))=([1,1,3,1]:List Nat).map some:=by
 intro fs h
 rw [Tryz.underlying122] at h
 cases h
 kernel_rfl
theorem fH:(Tryz.prog.info? 122).map (·.size)=some 6:=by kernel_rfl
instance iAG122:AA Tryz.prog 122 6:=⟨by kernel_rfl⟩
instance iFO122_0:FO Tryz.prog 122 0 0:=⟨by kernel_rfl⟩
theorem Eh:(Tryz.prog.info? 120).bind (·.zero)=some (.slice none 0 0):=by kernel_rfl
theorem Gn:(Tryz.prog.info? 120).map (·.size)=some 1:=by kernel_rfl
instance iAG120:AS Tryz.prog 120:=⟨by kernel_rfl⟩
theorem qA:(Tryz.prog.info? 181).bind (·.zero)=some (.agg #[.string ByteArray.empty,.string ByteArray.empty]):=by kernel_rfl
theorem yf:∀ fs,Tryz.prog.underlying 181=some (.struct fs)→fs.toList.map (fun f=>(Tryz.prog.info? f.type).map (·.size))=([1,1]:List Nat).map some:=by
 intro fs h
 rw [Tryz.underlying181] at h
 cases h
 kernel_rfl
theorem pS:(Tryz.prog.info? 181).map (·.size)=some 2:=by kernel_rfl
instance iAG181:AA Tryz.prog 181 2:=⟨by kernel_rfl⟩
instance iUD49:UD Tryz.prog 49 (.slice 9):=⟨Tryz.underlying49⟩
instance iSZ9:SZ Tryz.prog 9 1:=⟨by kernel_rfl⟩
instance iUD120:UD Tryz.prog 120 (.slice 181):=⟨Tryz.underlying120⟩
instance iLT_Param:LenE aD.enc 2:=⟨aD.len⟩
instance iFO181_0:FO Tryz.prog 181 0 0:=⟨by kernel_rfl⟩
instance iSZ181:SZ Tryz.prog 181 2:=⟨by kernel_rfl⟩
theorem GA:fS Tryz.prog 120 181 2 32:=⟨⟨Tryz.t181,.agg #[.string ByteArray.empty,.string ByteArray.empty],Tryz.underlying120,by kernel_rfl,by kernel_rfl,by kernel_rfl,by kernel_rfl,by decide,by kernel_rfl⟩⟩
instance iFO122_1:FO Tryz.prog 122 1 1:=⟨by kernel_rfl⟩
instance iFO122_3:FO Tryz.prog 122 3 5:=⟨by kernel_rfl⟩
instance iFO181_1:FO Tryz.prog 181 1 1:=⟨by kernel_rfl⟩
instance iFO122_2:FO Tryz.prog 122 2 2:=⟨by kernel_rfl⟩
instance iFO80_2:FO Tryz.prog 80 2 17:=⟨by kernel_rfl⟩
instance iUD34:UD Tryz.prog 34 (.slice 55):=⟨Tryz.underlying34⟩
instance iLiT_Out:LenI aA.ienc 12:=⟨aA.ilen⟩
instance iSZ55:SZ Tryz.prog 55 12:=⟨by kernel_rfl⟩
instance iFO55_0:FO Tryz.prog 55 0 0:=⟨by kernel_rfl⟩
instance iFO51_0:FO Tryz.prog 51 0 0:=⟨by kernel_rfl⟩
instance iFO55_3:FO Tryz.prog 55 3 11:=⟨by kernel_rfl⟩
abbrev aI.c (x:aI) (r:List AV):List AV:=vi x.Jz::vs x.Jm::vb x.Ji.Ju::vs x.Ji.Jq::vs x.Ji.Jf :: .fl .shr 3 (flatten (map ah.enc x.To))::vb x.JB::fb x.Jc::vs x.Jd::vb x.JA::r
abbrev bf.c (x:bf) (r:List AV):List AV:=vb x.Ji.Ju::vs x.Ji.Jq::vs x.Ji.Jf :: .fl .shr 3 (flatten (map ah.enc x.To))::fb x.Jb::vb x.JB::vs x.Jm::vi x.At::r
abbrev aH.c (x:aH) (r:List AV):List AV:=vs (x.Jg.getD 0 z0)::vs (x.Jg.getD 1 z0)::vi x.Jh::vs x.JF::vs x.JD::vi x.Jr::vb x.Jl::r
abbrev br.c (x:br) (r:List AV):List AV:=vi x.Jo::vs x.JE::vb x.Jy.Ju::vs x.Jy.Jq::vs x.Jy.Jf :: .fl .shr 2 (flatten (map aD.enc x.Jx))::r
theorem kq (n:Int) (lo:Int) (hi:Int) (r:Bool) (h:Sh.cL n lo hi=some r):bQ Tryz.prog 66 [.v (.int .i64 n),.v (.int .i64 lo),.v (.int .i64 hi)] (.v (.bool r)):=by
 unfold Sh.cL at h
 refine yO 15 func66 fun g0 hn hio => ?_
 refine aL hn 1 [0,1,2] ?_
 refine ab ?_
 refine aC h (fun (s1:Bool)=>[(6,vb s1)]) ?_ ?_
 ·rintro s1 h
  refine ae (ao ?_)
  obtain rfl:=zi h
  exact ay hio rfl (.tmp _ _ .nil) rfl rfl
 ·intro u2 h hl3 hr4
  refine am h (fun hg1_3 h => ?_) (fun hg1_3 h => ?_)
  ·refine yx hn 4 ?_
   refine yd hg1_3 5 ?_
   refine ye [6] ?_
   exact hl3 _ (zi h).symm
  ·refine yx hn 4 ?_
   refine yd hg1_3 5 ?_
   refine ye [6] ?_
   exact hl3 _ (zi h).symm
theorem lx (s:JH) (least:Int) (most:Int) (lo:Int) (r:Bool) (h:Sh.ez s least most lo=some r):bQ Tryz.prog 48 [.v (.string s),.v (.int .i64 least),.v (.int .i64 most),.v (.int .i64 lo)] (.v (.bool r)):=by
 unfold Sh.ez at h
 refine yO 29 func48 fun g0 hn hio => ?_
 refine aL hn 1 [0,1,2,3] ?_
 refine ab (ab ?_)
 obtain ⟨v1,hv1,h⟩:=zn h
 refine yx hn 4 ?_
 refine ys 1 ⟨lk call66 (kq _ _ _ _ hv1)⟩ ?_
 refine ba [0,3,15] ?_
 refine al _ rfl (fun hb2 => ?_) (fun hb2 => ?_)
 ·have h:=ar hb2 h
  refine aL hn 1 [8] ?_
  refine ao (ai ?_)
  obtain rfl:=zi h
  exact ay hio rfl (.tmp _ _ .nil) rfl rfl
 ·have h:=aq hb2 h
  refine au ?_
  refine ae (ab ?_)
  refine aL hn 1 [0,3,9] ?_
  refine aZ h (fun (s12:Int)=>[(0,vs s),(3,vi lo),(9,vi s12)]) (fun (():Unit)=>[]) ?_ ?_
  ·rintro ⟨⟩ h
   refine ae ?_
   refine aL hn 1 [8] ?_
   refine ao ?_
   obtain rfl:=zi h
   exact ay hio rfl (.tmp _ _ .nil) rfl rfl
  ·rintro u15 hl16 hr17 s12 rr20 h ho18
   refine ab ?_
   refine aL hn 4 [0,3,9,19] ?_
   refine al _ rfl (fun hb21 => ?_) (fun hb21 => ?_)
   ·have h:=ar hb21 h
    refine au ?_
    refine ae (ab ?_)
    refine aJ (ab ?_)
    obtain ⟨v4,hv4,h⟩:=zn h
    obtain ⟨v5,hv5,h⟩:=zn h
    obtain ⟨v6,hv6,h⟩:=zn h
    refine yx hn 2 ?_
    refine ys 0 ⟨lh hv4⟩ ?_
    refine ys 1 ⟨lv hv5⟩ ?_
    refine ys 1 ⟨lk call66 (kq _ _ _ _ hv6)⟩ ?_
    refine ba [0,3,9,28] ?_
    refine al _ rfl (fun hb22 => ?_) (fun hb22 => ?_)
    ·have h:=ar hb22 h
     refine aL hn 1 [8] ?_
     refine ao (aR (ai (ai (aR (ai ?_)))))
     have h:=hr17 _ (ho18 _ (zi h).symm).symm
     obtain rfl:=zi h
     exact ay hio rfl (.tmp _ _ .nil) rfl rfl
    ·have h:=aq hb22 h
     refine au (aP (ae ?_))
     obtain ⟨v8,hv8,h⟩:=zn h
     refine yx hn 1 ?_
     refine ys 0 ⟨lb hv8⟩ ?_
     refine yw [9] 1 ?_
     refine ye [0,3,9] ?_
     exact bn _ (zi h).symm rfl
   ·have h:=aq hb21 h
    refine bl (az (az (bm ?_)))
    refine ag [] (by kernel_rfl) (es':=[]) rfl ?_
    exact hl16 _ (ho18 _ (zi h).symm).symm
theorem fY (s:JH) (r:Bool) (h:Sh.ce s=some r):bQ Tryz.prog 27 [.v (.string s)] (.v (.bool r)):=by
 unfold Sh.ce at h
 refine yO 5 func27 fun g0 hn hio => ?_
 refine aL hn 1 [0] ?_
 refine ab ?_
 obtain ⟨v1,hv1,h⟩:=zn h
 refine yx hn 1 ?_
 refine ys 1 ⟨lk call48 (lx _ _ _ _ _ hv1)⟩ ?_
 refine ba [2] ?_
 refine ao ?_
 obtain rfl:=zi h
 exact ay hio rfl (.tmp _ _ .nil) rfl rfl
theorem fo (n:Int) (lo:Int) (hi:Int) (r:Bool) (h:Sh.dp n lo hi=some r):bQ Tryz.prog 49 [.v (.int .i64 n),.v (.int .i64 lo),.v (.int .i64 hi)] (.v (.bool r)):=by
 unfold Sh.dp at h
 refine yO 15 func49 fun g0 hn hio => ?_
 refine aL hn 1 [0,1,2] ?_
 refine ab ?_
 refine aC h (fun (s1:Bool)=>[(6,vb s1)]) ?_ ?_
 ·rintro s1 h
  refine ae (ao ?_)
  obtain rfl:=zi h
  exact ay hio rfl (.tmp _ _ .nil) rfl rfl
 ·intro u2 h hl3 hr4
  refine am h (fun hg1_3 h => ?_) (fun hg1_3 h => ?_)
  ·refine yx hn 4 ?_
   refine yd hg1_3 5 ?_
   refine ye [6] ?_
   exact hl3 _ (zi h).symm
  ·refine yx hn 4 ?_
   refine yd hg1_3 5 ?_
   refine ye [6] ?_
   exact hl3 _ (zi h).symm
theorem fg (c:Int) (r:Bool) (h:Sh.cv c=some r):bQ Tryz.prog 50 [.v (.int .u8 c)] (.v (.bool r)):=by
 unfold Sh.cv at h
 refine yO 17 func50 fun g0 hn hio => ?_
 refine aL hn 1 [0] ?_
 refine ab ?_
 refine aC h (fun (s1:Bool)=>[(2,vb s1)]) ?_ ?_
 ·rintro s1 h
  refine ae (ao ?_)
  obtain rfl:=zi h
  exact ay hio rfl (.tmp _ _ .nil) rfl rfl
 ·intro u2 h hl3 hr4
  refine am h (fun hg1_2 h => ?_) (fun hg1_2 h => ?_)
  ·refine am h (fun hg1_6 h => ?_) (fun hg1_6 h => ?_)
   ·refine yx hn 3 ?_
    refine yd hg1_2 4 ?_
    refine yd hg1_6 8 ?_
    refine ye [2] ?_
    exact hl3 _ (zi h).symm
   ·refine am h (fun hg1_9 h => ?_) (fun hg1_9 h => ?_)
    ·refine yx hn 3 ?_
     refine yd hg1_2 4 ?_
     refine yd hg1_6 3 ?_
     refine yd hg1_9 5 ?_
     refine ye [2] ?_
     exact hl3 _ (zi h).symm
    ·refine yx hn 3 ?_
     refine yd hg1_2 4 ?_
     refine yd hg1_6 3 ?_
     refine yd hg1_9 5 ?_
     refine ye [2] ?_
     exact hl3 _ (zi h).symm
  ·refine am h (fun hg1_9 h => ?_) (fun hg1_9 h => ?_)
   ·refine yx hn 3 ?_
    refine yd hg1_2 7 ?_
    refine yd hg1_9 5 ?_
    refine ye [2] ?_
    exact hl3 _ (zi h).symm
   ·refine yx hn 3 ?_
    refine yd hg1_2 7 ?_
    refine yd hg1_9 5 ?_
    refine ye [2] ?_
    exact hl3 _ (zi h).symm
theorem iZ (c:Int) (r:Bool) (h:Sh.cJ c=some r):bQ Tryz.prog 51 [.v (.int .u8 c)] (.v (.bool r)):=by
 unfold Sh.cJ at h
 refine yO 9 func51 fun g0 hn hio => ?_
 refine aL hn 1 [0] ?_
 refine ab ?_
 refine aC h (fun (s1:Bool)=>[(2,vb s1)]) ?_ ?_
 ·rintro s1 h
  refine ae (ao ?_)
  obtain rfl:=zi h
  exact ay hio rfl (.tmp _ _ .nil) rfl rfl
 ·intro u2 h hl3 hr4
  refine am h (fun hg1_2 h => ?_) (fun hg1_2 h => ?_)
  ·refine yx hn 3 ?_
   refine yd hg1_2 4 ?_
   refine ye [2] ?_
   exact hl3 _ (zi h).symm
  ·refine yx hn 3 ?_
   refine yd hg1_2 4 ?_
   refine ye [2] ?_
   exact hl3 _ (zi h).symm
theorem mj (s:JH) (r:Bool) (h:Sh.dL s=some r):bQ Tryz.prog 28 [.v (.string s)] (.v (.bool r)):=by
 unfold Sh.dL at h
 refine yO 63 func28 fun g0 hn hio => ?_
 refine aL hn 1 [0] ?_
 refine ab (ab ?_)
 obtain ⟨v1,hv1,h⟩:=zn h
 refine yx hn 2 ?_
 refine ys 1 ⟨lk call49 (fo _ _ _ _ hv1)⟩ ?_
 refine ba [0,8] ?_
 refine al _ rfl (fun hb2 => ?_) (fun hb2 => ?_)
 ·have h:=ar hb2 h
  refine aL hn 1 [2] ?_
  refine ao (ai ?_)
  obtain rfl:=zi h
  exact ay hio rfl (.tmp _ _ .nil) rfl rfl
 ·have h:=aq hb2 h
  refine au (ae ?_)
  refine aL hn 1 [0,3] ?_
  refine ab ?_
  refine aL hn 1 [0,3,4] ?_
  refine aZ h (fun ((s88,s89):Int×Int)=>[(0,vs s),(3,vi s88),(4,vi s89)]) (fun (():Unit)=>[]) ?_ ?_
  ·rintro ⟨⟩ h
   refine ae ?_
   refine aL hn 1 [2] ?_
   refine ao ?_
   obtain rfl:=zi h
   exact ay hio rfl (.tmp _ _ .nil) rfl rfl
  ·rintro u125 hl126 hr127 ⟨s88,s89⟩ rr130 h ho128
   refine ab ?_
   refine aL hn 4 [0,3,4,12] ?_
   refine al _ rfl (fun hb131 => ?_) (fun hb131 => ?_)
   ·have h:=ar hb131 h
    refine au ?_
    refine ae (ab ?_)
    refine aC h (fun (s147:Int)=>[(0,vs s),(3,vi s147),(4,vi s89)]) ?_ ?_
    ·rintro s147 h
     refine ae ?_
     obtain ⟨v50,hv50,h⟩:=zn h
     refine yx hn 1 ?_
     refine ys 0 ⟨lb hv50⟩ ?_
     refine yw [4] 1 ?_
     refine ye [0,3,4] ?_
     exact bn _ (zi h).symm rfl
    ·intro u148 h hl149 hr150
     refine aJ (ab (ab ?_))
     refine aC h (fun (s151:Bool)=>[(0,vs s),(3,vi s88),(4,vi s89),(24,vb s151)]) ?_ ?_
     ·rintro s151 h
      refine ae ?_
      refine al _ rfl (fun hb155 => ?_) (fun hb155 => ?_)
      ·have h:=ar hb155 h
       refine ab (ab ?_)
       refine aC h (fun (s156:Bool)=>[(0,vs s),(3,vi s88),(4,vi s89),(42,vb s156)]) ?_ ?_
       ·rintro s156 h
        refine ae ?_
        refine al _ rfl (fun hb160 => ?_) (fun hb160 => ?_)
        ·have h:=ar hb160 h
         refine aL hn 1 [2] ?_
         refine ao (ai (ai (aR (ai (ai (aR (ai ?_)))))))
         have h:=hr150 _ (zi h).symm
         have h:=hr127 _ (ho128 _ (zi h).symm).symm
         obtain rfl:=zi h
         exact ay hio rfl (.tmp _ _ .nil) rfl rfl
        ·have h:=aq hb160 h
         refine au (ae (bl (az (bm ?_))))
         refine ag [0,1,2] (by kernel_rfl) (es':=[(_,_),(_,_),(_,_)]) rfl ?_
         exact hl149 _ (zi h).symm
       ·intro u157 h hl158 hr159
        obtain ⟨v10,hv10,h⟩:=zn h
        obtain ⟨v11,hv11,h⟩:=zn h
        refine am h (fun hg8_5 h => ?_) (fun hg8_5 h => ?_)
        ·obtain ⟨v12,hv12,h⟩:=zn h
         obtain ⟨v13,hv13,h⟩:=zn h
         refine am h (fun hg8_12 h => ?_) (fun hg8_12 h => ?_)
         ·obtain ⟨v14,hv14,h⟩:=zn h
          refine yx hn 2 ?_
          refine ys 0 ⟨lh hv10⟩ ?_
          refine ys 2 ⟨lk call50 (fg _ _ hv11)⟩ ?_
          refine yd hg8_5 2 ?_
          refine ys 0 ⟨lh hv12⟩ ?_
          refine ys 3 ⟨lk call51 (iZ _ _ hv13)⟩ ?_
          refine yd hg8_12 2 ?_
          refine ys 2 ⟨lh hv14⟩ ?_
          refine ye [0,3,4,42] ?_
          exact hl158 _ (zi h).symm
         ·refine yx hn 2 ?_
          refine ys 0 ⟨lh hv10⟩ ?_
          refine ys 2 ⟨lk call50 (fg _ _ hv11)⟩ ?_
          refine yd hg8_5 2 ?_
          refine ys 0 ⟨lh hv12⟩ ?_
          refine ys 3 ⟨lk call51 (iZ _ _ hv13)⟩ ?_
          refine yd hg8_12 5 ?_
          refine ye [0,3,4,42] ?_
          exact hl158 _ (zi h).symm
        ·refine yx hn 2 ?_
         refine ys 0 ⟨lh hv10⟩ ?_
         refine ys 2 ⟨lk call50 (fg _ _ hv11)⟩ ?_
         refine yd hg8_5 12 ?_
         refine ye [0,3,4,42] ?_
         exact hl158 _ (zi h).symm
      ·have h:=aq hb155 h
       refine au ?_
       refine ae (ab ?_)
       refine ab ?_
       refine aC h (fun (s161:Bool)=>[(0,vs s),(4,vi s89),(60,vb s161)]) ?_ ?_
       ·rintro s161 h
        refine ae ?_
        refine al _ rfl (fun hb165 => ?_) (fun hb165 => ?_)
        ·have h:=ar hb165 h
         refine aL hn 1 [2] ?_
         refine ao (ai (aR (ai (ai (aR (ai ?_))))))
         have h:=hr150 _ (zi h).symm
         have h:=hr127 _ (ho128 _ (zi h).symm).symm
         obtain rfl:=zi h
         exact ay hio rfl (.tmp _ _ .nil) rfl rfl
        ·have h:=aq hb165 h
         refine au (ae ?_)
         obtain ⟨v30,hv30,h⟩:=zn h
         refine yx hn 1 ?_
         refine ys 1 ⟨lb hv30⟩ ?_
         refine ye [0,4,3] ?_
         refine aP ?_
         refine ag [0,2,1] (by kernel_rfl) (es':=[(_,_),(_,_),(_,_)]) rfl ?_
         exact hl149 _ (zi h).symm
       ·intro u162 h hl163 hr164
        obtain ⟨v20,hv20,h⟩:=zn h
        obtain ⟨v21,hv21,h⟩:=zn h
        refine am h (fun hg10_5 h => ?_) (fun hg10_5 h => ?_)
        ·refine yx hn 2 ?_
         refine ys 0 ⟨lb hv20⟩ ?_
         refine ys 2 ⟨lk call49 (fo _ _ _ _ hv21)⟩ ?_
         refine yd hg10_5 12 ?_
         refine ye [0,4,60] ?_
         exact hl163 _ (zi h).symm
        ·obtain ⟨v22,hv22,h⟩:=zn h
         refine am h (fun hg10_11 h => ?_) (fun hg10_11 h => ?_)
         ·refine yx hn 2 ?_
          refine ys 0 ⟨lb hv20⟩ ?_
          refine ys 2 ⟨lk call49 (fo _ _ _ _ hv21)⟩ ?_
          refine yd hg10_5 2 ?_
          refine ys 3 ⟨lh hv22⟩ ?_
          refine yd hg10_11 6 ?_
          refine ye [0,4,60] ?_
          exact hl163 _ (zi h).symm
         ·obtain ⟨v23,hv23,h⟩:=zn h
          obtain ⟨v24,hv24,h⟩:=zn h
          refine yx hn 2 ?_
          refine ys 0 ⟨lb hv20⟩ ?_
          refine ys 2 ⟨lk call49 (fo _ _ _ _ hv21)⟩ ?_
          refine yd hg10_5 2 ?_
          refine ys 3 ⟨lh hv22⟩ ?_
          refine yd hg10_11 2 ?_
          refine ys 0 ⟨lb hv23⟩ ?_
          refine ys 2 ⟨lh hv24⟩ ?_
          refine ye [0,4,60] ?_
          exact hl163 _ (zi h).symm
     ·intro u152 h hl153 hr154
      refine am h (fun hg7_4 h => ?_) (fun hg7_4 h => ?_)
      ·obtain ⟨v4,hv4,h⟩:=zn h
       refine yx hn 5 ?_
       refine yd hg7_4 2 ?_
       refine ys 2 ⟨lh hv4⟩ ?_
       refine ye [0,3,4,24] ?_
       exact hl153 _ (zi h).symm
      ·refine yx hn 5 ?_
       refine yd hg7_4 5 ?_
       refine ye [0,3,4,24] ?_
       exact hl153 _ (zi h).symm
   ·have h:=aq hb131 h
    refine bl (az (az (bm ?_)))
    refine ag [] (by kernel_rfl) (es':=[]) rfl ?_
    exact hl126 _ (ho128 _ (zi h).symm).symm
theorem gw (l:(List Int)) (r:(List Int)) (h:Sh.dr l=some r):bQ Tryz.prog 33 [.fl .shr 1 (map (int .u8) l)] (.fl (.own 5) 1 (map (int .u8) r)):=by
 unfold Sh.dr at h
 refine yO 7 func33 fun g0 hn hio => ?_
 refine aL hn 1 [0] ?_
 refine aL hn 1 [0,3] ?_
 refine ab ?_
 obtain ⟨v1,hv1,h⟩:=zn h
 refine yx hn 2 ?_
 refine yS (.fl (.own 5) 1 (map (int .u8) v1)) 0 ⟨lY _ _ _ _ fQ rfl rfl (dQ _) hv1 (congrArg (map _) (lV hv1))⟩ ?_
 refine ya 0 ?_
 refine ba [2] ?_
 refine ao ?_
 obtain rfl:=zi h
 exact ay hio rfl (.tmp _ _ .nil) rfl rfl
theorem mv (r:(List Int)) (h:Sh.fp  = some r):bQ Tryz.prog 77 [] (.fl (.own 106) 1 (map (int .u32) r)):=by
 unfold Sh.fp at h
 refine yO 2 func77 fun g0 hn hio => ?_
 refine aL hn 1 [] ?_
 refine fu hn 0 ?_
 refine yS (.fl (.own 106) 1 (map (int .u32) [3614090360,3905402710,606105819,3250441966,4118548399,1200080426,2821735955,4249261313,1770035416,2336552879,4294925233,2304563134,1804603682,4254626195,2792965006,1236535329,4129170786,3225465664,643717713,3921069994,3593408605,38016083,3634488961,3889429448,568446438,3275163606,4107603335,1163531501,2850285829,4243563512,1735328473,2368359562,4294588738,2272392833,1839030562,4259657740,2763975236,1272893353,4139469664,3200236656,681279174,3936430074,3572445317,76029189,3654602809,3873151461,530742520,3299628645,4096336452,1126891415,2878612391,4237533241,1700485571,2399980690,4293915773,2240044497,1873313359,4264355552,2734768916,1309151649,4149444226,3174756917,718787259,3951481745])) 0 ⟨aY _ _ 1 (.int .u32 0) (map (int .u32) [3614090360,3905402710,606105819,3250441966,4118548399,1200080426,2821735955,4249261313,1770035416,2336552879,4294925233,2304563134,1804603682,4254626195,2792965006,1236535329,4129170786,3225465664,643717713,3921069994,3593408605,38016083,3634488961,3889429448,568446438,3275163606,4107603335,1163531501,2850285829,4243563512,1735328473,2368359562,4294588738,2272392833,1839030562,4259657740,2763975236,1272893353,4139469664,3200236656,681279174,3936430074,3572445317,76029189,3654602809,3873151461,530742520,3299628645,4096336452,1126891415,2878612391,4237533241,1700485571,2399980690,4293915773,2240044497,1873313359,4264355552,2734768916,1309151649,4149444226,3174756917,718787259,3951481745]) [(0,.int .u32 3614090360),(1,.int .u32 3905402710),(2,.int .u32 606105819),(3,.int .u32 3250441966),(4,.int .u32 4118548399),(5,.int .u32 1200080426),(6,.int .u32 2821735955),(7,.int .u32 4249261313),(8,.int .u32 1770035416),(9,.int .u32 2336552879),(10,.int .u32 4294925233),(11,.int .u32 2304563134),(12,.int .u32 1804603682),(13,.int .u32 4254626195),(14,.int .u32 2792965006),(15,.int .u32 1236535329),(16,.int .u32 4129170786),(17,.int .u32 3225465664),(18,.int .u32 643717713),(19,.int .u32 3921069994),(20,.int .u32 3593408605),(21,.int .u32 38016083),(22,.int .u32 3634488961),(23,.int .u32 3889429448),(24,.int .u32 568446438),(25,.int .u32 3275163606),(26,.int .u32 4107603335),(27,.int .u32 1163531501),(28,.int .u32 2850285829),(29,.int .u32 4243563512),(30,.int .u32 1735328473),(31,.int .u32 2368359562),(32,.int .u32 4294588738),(33,.int .u32 2272392833),(34,.int .u32 1839030562),(35,.int .u32 4259657740),(36,.int .u32 2763975236),(37,.int .u32 1272893353),(38,.int .u32 4139469664),(39,.int .u32 3200236656),(40,.int .u32 681279174),(41,.int .u32 3936430074),(42,.int .u32 3572445317),(43,.int .u32 76029189),(44,.int .u32 3654602809),(45,.int .u32 3873151461),(46,.int .u32 530742520),(47,.int .u32 3299628645),(48,.int .u32 4096336452),(49,.int .u32 1126891415),(50,.int .u32 2878612391),(51,.int .u32 4237533241),(52,.int .u32 1700485571),(53,.int .u32 2399980690),(54,.int .u32 4293915773),(55,.int .u32 2240044497),(56,.int .u32 1873313359),(57,.int .u32 4264355552),(58,.int .u32 2734768916),(59,.int .u32 1309151649),(60,.int .u32 4149444226),(61,.int .u32 3174756917),(62,.int .u32 718787259),(63,.int .u32 3951481745)] underlying107 eH EG (fun _ V w o a hv hes=>by simp only [List.map_toArray,List.map_cons,List.map_nil]; try rfl) (cd (by simp [Instr.fill,Value.cells]; rfl) (by simp [List.range,List.range.loop] <;> rfl)) (by simp [Value.oneCell']) rfl (by decide) (by decide) (by decide)⟩ ?_
 refine ya 0 ?_
 refine ba [0] ?_
 refine ao ?_
 obtain rfl:=zi h
 exact ay hio rfl (.tmp _ _ .nil) rfl rfl
theorem nK (x:(List Int)) (at_:Int) (r:Int) (h:Sh.eD x at_=some r):bQ Tryz.prog 78 [.fl .shr 1 (map (int .u8) x),.v (.int .i64 at_)] (.v (.int .u32 r)):=by
 unfold Sh.eD at h
 refine yO 34 func78 fun g0 hn hio => ?_
 refine aL hn 1 [0,1] ?_
 refine ab ?_
 obtain ⟨v1,hv1,h⟩:=zn h
 obtain ⟨v2,hv2,h⟩:=zn h
 obtain ⟨v3,hv3,h⟩:=zn h
 obtain ⟨v4,hv4,h⟩:=zn h
 obtain ⟨v5,hv5,h⟩:=zn h
 obtain ⟨v6,hv6,h⟩:=zn h
 obtain ⟨v7,hv7,h⟩:=zn h
 obtain ⟨v8,hv8,h⟩:=zn h
 obtain ⟨v9,hv9,h⟩:=zn h
 obtain ⟨v10,hv10,h⟩:=zn h
 obtain ⟨v11,hv11,h⟩:=zn h
 obtain ⟨v12,hv12,h⟩:=zn h
 obtain ⟨v13,hv13,h⟩:=zn h
 obtain ⟨v14,hv14,h⟩:=zn h
 obtain ⟨v15,hv15,h⟩:=zn h
 obtain ⟨v16,hv16,h⟩:=zn h
 obtain ⟨v17,hv17,h⟩:=zn h
 obtain ⟨v18,hv18,h⟩:=zn h
 obtain ⟨v19,hv19,h⟩:=zn h
 obtain ⟨v20,hv20,h⟩:=zn h
 obtain ⟨v21,hv21,h⟩:=zn h
 refine wb [[0],[1]] ?_
 refine wN [5,6] ?_
 refine wo [] ⟨li hv1⟩ ?_
 refine wN [7,5] ?_
 refine wo [] ⟨ll hv2⟩ ?_
 refine wN [8] ?_
 refine wo [[0],[1]] ⟨lv hv3⟩ ?_
 refine wN [11] ?_
 refine wo [] ⟨lb hv4⟩ ?_
 refine wN [10,12] ?_
 refine wo [] ⟨li hv5⟩ ?_
 refine wN [13,10] ?_
 refine wo [] ⟨ll hv6⟩ ?_
 refine wN [14] ?_
 refine wo [] ⟨lv hv7⟩ ?_
 refine wN [15] ?_
 refine wo [] ⟨lB (jK hv8)⟩ ?_
 refine wN [9,16] ?_
 refine wo [[0],[1]] ⟨lb hv9⟩ ?_
 refine wN [19] ?_
 refine wo [] ⟨lb hv10⟩ ?_
 refine wN [18,20] ?_
 refine wo [] ⟨li hv11⟩ ?_
 refine wN [21,18] ?_
 refine wo [] ⟨ll hv12⟩ ?_
 refine wN [22] ?_
 refine wo [] ⟨lv hv13⟩ ?_
 refine wN [23] ?_
 refine wo [] ⟨lB (jK hv14)⟩ ?_
 refine wN [17,24] ?_
 refine wo [[0],[1]] ⟨lb hv15⟩ ?_
 refine wN [27] ?_
 refine wo [] ⟨lb hv16⟩ ?_
 refine wN [26,28] ?_
 refine wo [] ⟨li hv17⟩ ?_
 refine wN [29,26] ?_
 refine wo [] ⟨ll hv18⟩ ?_
 refine wN [30] ?_
 refine wo [] ⟨lv hv19⟩ ?_
 refine wN [31] ?_
 refine wo [] ⟨lB (jK hv20)⟩ ?_
 refine wN [25,32] ?_
 refine wo [[33]] ⟨lb hv21⟩ ?_
 refine tg hn [4] ?_
 refine ao ?_
 obtain rfl:=zi h
 exact ay hio rfl (.tmp _ _ .nil) rfl rfl
theorem mq (i:Int) (r:Int) (h:Sh.dV i=some r):bQ Tryz.prog 79 [.v (.int .i64 i)] (.v (.int .u64 r)):=by
 unfold Sh.dV at h
 refine yO 14 func79 fun g0 hn hio => ?_
 refine aL hn 1 [0] ?_
 refine fu hn 0 ?_
 refine yS (.fl (.own 39) 1 (map (int .u64) [7,12,17,22,5,9,14,20,4,11,16,23,6,10,15,21])) 0 ⟨aY _ _ 1 (.int .u64 0) (map (int .u64) [7,12,17,22,5,9,14,20,4,11,16,23,6,10,15,21]) [(0,.int .u64 7),(1,.int .u64 12),(2,.int .u64 17),(3,.int .u64 22),(4,.int .u64 5),(5,.int .u64 9),(6,.int .u64 14),(7,.int .u64 20),(8,.int .u64 4),(9,.int .u64 11),(10,.int .u64 16),(11,.int .u64 23),(12,.int .u64 6),(13,.int .u64 10),(14,.int .u64 15),(15,.int .u64 21)] underlying126 It Iz (fun _ V w o a hv hes=>by simp only [List.map_toArray,List.map_cons,List.map_nil]; try rfl) (cd (by simp [Instr.fill,Value.cells]; rfl) (by simp [List.range,List.range.loop] <;> rfl)) (by simp [Value.oneCell']) rfl (by decide) (by decide) (by decide)⟩ ?_
 refine ya 0 ?_
 refine ba [0,3] ?_
 refine ab ?_
 obtain ⟨v1,hv1,h⟩:=zn h
 obtain ⟨v2,hv2,h⟩:=zn h
 obtain ⟨v3,hv3,h⟩:=zn h
 obtain ⟨v4,hv4,h⟩:=zn h
 obtain ⟨v5,hv5,h⟩:=zn h
 obtain ⟨v6,hv6,h⟩:=zn h
 refine yx hn 0 ?_
 refine ym 1 ?_
 refine ys 0 ⟨lB (mY hv1)⟩ ?_
 refine ys 1 ⟨lb hv2⟩ ?_
 refine ys 0 ⟨lB (gC hv3)⟩ ?_
 refine ys 0 ⟨lb hv4⟩ ?_
 refine ys 0 ⟨li hv5⟩ ?_
 refine ys 1 ⟨ll hv6⟩ ?_
 refine ba [2] ?_
 refine ao ?_
 obtain rfl:=zi h
 exact ay hio rfl (.tmp _ _ .nil) rfl rfl
theorem gK (b:(List Int)) (r:(List Int)) (h:Sh.du b=some r):bQ Tryz.prog 67 [.fl .shr 1 (map (int .u8) b)] (.v (.agg (map (int .u8) r).toArray)):=by
 unfold Sh.du at h
 refine yO 192 func67 fun g0 hn hio => ?_
 refine fu hn 0 ?_
 refine yS (.arr 91 (map (int .u8) ((List.replicate 16 (0:Int))))) 0 ⟨oA (bE _ qT)⟩ ?_
 refine ba [0,2] ?_
 refine ab ?_
 obtain ⟨v1,hv1,h⟩:=zn h
 obtain ⟨v2,hv2,h⟩:=zn h
 refine yx hn 1 ?_
 refine ys 0 ⟨lk call33 (gw _ _ hv1)⟩ ?_
 refine yS (.fl (.own 5) 1 (map (int .u8) [128])) 0 ⟨aY _ _ 1 (.int .u8 0) (map (int .u8) [128]) [(0,.int .u8 128)] underlying28 jx qD (fun _ V w o a hv hes=>by simp only [List.map_toArray,List.map_cons,List.map_nil]; try rfl) (cd (by simp [Instr.fill,Value.cells]; rfl) (by simp [List.range,List.range.loop] <;> rfl)) (by simp [Value.oneCell']) rfl (by decide) (by decide) (by decide)⟩ ?_
 refine yp fQ hv2 0 ?_
 refine ya 0 ?_
 refine ba [0,2,3] ?_
 refine ab ?_
 refine aZ h (fun (s8:(List Int))=>[(0,fb b),(2,.arr 91 (map (int .u8) ((List.replicate 16 (0:Int))))),(3,.fl (.own 5) 1 (map (int .u8) s8))]) (fun (s10:(List Int))=>[(0,fb b),(2,.arr 91 (map (int .u8) ((List.replicate 16 (0:Int))))),(3,.fl (.own 5) 1 (map (int .u8) s10))]) ?_ ?_
 ·rintro s10 h
  refine ae (ab ?_)
  refine aL hn 1 [0,2,3,4] ?_
  refine aZ h (fun ((s30,s31):(List Int)×Int)=>[(0,fb b),(2,.arr 91 (map (int .u8) ((List.replicate 16 (0:Int))))),(3,.fl (.own 5) 1 (map (int .u8) s30)),(4,vi s31)]) (fun (s33:(List Int))=>[(2,.arr 91 (map (int .u8) ((List.replicate 16 (0:Int))))),(3,.fl (.own 5) 1 (map (int .u8) s33))]) ?_ ?_
  ·rintro s33 h
   refine ae ?_
   refine fu hn 0 ?_
   refine yS (.fl (.own 106) 1 (map (int .u32) [1732584193,4023233417,2562383102,271733878])) 0 ⟨aY _ _ 1 (.int .u32 0) (map (int .u32) [1732584193,4023233417,2562383102,271733878]) [(0,.int .u32 1732584193),(1,.int .u32 4023233417),(2,.int .u32 2562383102),(3,.int .u32 271733878)] underlying107 eH EG (fun _ V w o a hv hes=>by simp only [List.map_toArray,List.map_cons,List.map_nil]; try rfl) (cd (by simp [Instr.fill,Value.cells]; rfl) (by simp [List.range,List.range.loop] <;> rfl)) (by simp [Value.oneCell']) rfl (by decide) (by decide) (by decide)⟩ ?_
   refine ya 0 ?_
   refine ba [2,3,5] ?_
   refine ab ?_
   obtain ⟨v41,hv41,h⟩:=zn h
   refine yx hn 0 ?_
   refine ys 0 ⟨lk call77 (mv _ hv41)⟩ ?_
   refine ya 0 ?_
   refine ba [2,3,5,6] ?_
   refine ab ?_
   refine aL hn 1 [2,3,5,6,7] ?_
   refine aZ h (fun ((s376,s377):(List Int)×Int)=>[(2,.arr 91 (map (int .u8) ((List.replicate 16 (0:Int))))),(3,.fl (.own 5) 1 (map (int .u8) s33)),(5,.fl (.own 106) 1 (map (int .u32) s376)),(6,.fl (.own 106) 1 (map (int .u32) v41)),(7,vi s377)]) (fun (s511:(List Int))=>[(2,.arr 91 (map (int .u8) ((List.replicate 16 (0:Int))))),(5,.fl (.own 106) 1 (map (int .u32) s511))]) ?_ ?_
   ·rintro s511 h
    refine ae ?_
    refine fu hn 0 ?_
    refine yS (.arr 91 (map (int .u8) ((List.replicate 16 (0:Int))))) 0 ⟨oA (bE _ qT)⟩ ?_
    refine ba [2,5,16] ?_
    refine ab ?_
    refine aL hn 1 [2,5,16,17] ?_
    refine aZ h (fun ((s666,s667):(List Int)×Int)=>[(2,.arr 91 (map (int .u8) ((List.replicate 16 (0:Int))))),(5,.fl (.own 106) 1 (map (int .u32) s511)),(16,.arr 91 (map (int .u8) s666)),(17,vi s667)]) (fun (s669:(List Int))=>[(2,.arr 91 (map (int .u8) ((List.replicate 16 (0:Int))))),(16,.arr 91 (map (int .u8) s669))]) ?_ ?_
    ·rintro s669 h
     refine ae (ab ?_)
     obtain ⟨v677,hv677,h⟩:=zn h
     obtain ⟨v678,hv678,h⟩:=zn h
     obtain ⟨v679,hv679,h⟩:=zn h
     refine yx hn 0 ?_
     refine yS (.v (.agg (map (int .u8) s669).toArray)) 0 ⟨fN _ _ _ _ underlying91 rfl (nH.trans (congrArg some (bh hv677))) rfl rfl⟩ ?_
     refine yk [2] [191] ?_
     refine yt (2,.arr 91 (map (int .u8) s669)) 0 ⟨bH _ _ _ _ (nH.trans (congrArg some (bh hv679))) rfl rfl (cX (fun _=>rfl) _) ((bh (f:=int .u8) hv678).symm.trans (bh (f:=int .u8) hv679))⟩ ?_
     refine ba [2] ?_
     refine ao ?_
     obtain ⟨v680,hv680,h⟩:=zn h
     obtain rfl:=zi h
     exact ay hio rfl (.cellR _ _ _ _ underlying91 rfl (nH.trans (congrArg some (bh hv680))) .nil) rfl rfl
    ·rintro u670 hl671 hr672 ⟨s666,s667⟩ rr675 h ho673
     refine ab ?_
     refine aL hn 2 [2,5,16,17,175] ?_
     refine al _ rfl (fun hb676 => ?_) (fun hb676 => ?_)
     ·have h:=ar hb676 h
      refine au ?_
      refine ae (ab ?_)
      refine aJ ?_
      obtain ⟨v652,hv652,h⟩:=zn h
      obtain ⟨v653,hv653,h⟩:=zn h
      obtain ⟨v654,hv654,h⟩:=zn h
      obtain ⟨v655,hv655,h⟩:=zn h
      obtain ⟨v656,hv656,h⟩:=zn h
      obtain ⟨v657,hv657,h⟩:=zn h
      obtain ⟨v658,hv658,h⟩:=zn h
      obtain ⟨v659,hv659,h⟩:=zn h
      obtain ⟨v660,hv660,h⟩:=zn h
      obtain ⟨v661,hv661,h⟩:=zn h
      refine yx hn 3 ?_
      refine ys 0 ⟨lB (mY hv652)⟩ ?_
      refine ys 0 ⟨li hv653⟩ ?_
      refine ys 1 ⟨ll hv654⟩ ?_
      refine ys 0 ⟨lB (gC hv655)⟩ ?_
      refine ys 0 ⟨lb hv656⟩ ?_
      refine ys 0 ⟨lv hv657⟩ ?_
      refine ys 0 ⟨lB (gF hv658)⟩ ?_
      refine ys 0 ⟨lv hv659⟩ ?_
      refine yS (.ptr 16 v660) 0 ⟨cz _ _ _ _ 16 16 _ underlying91 jx rfl rfl (bz hv660).1 (bz hv660).2 (by decide)⟩ ?_
      refine yk [16] [190,189] ?_
      refine yt (16,.arr 91 (map (int .u8) v661)) 0 ⟨jC _ _ _ _ _ _ jx rfl rfl rfl rfl (uT hv661) (uN (f:=int .u8) hv661)⟩ ?_
      refine ye [2,5,16,17] ?_
      refine aP (ae ?_)
      obtain ⟨v662,hv662,h⟩:=zn h
      refine yx hn 1 ?_
      refine ys 0 ⟨lb hv662⟩ ?_
      refine yw [17] 1 ?_
      refine ye [2,5,16,17] ?_
      exact bn _ (zi h).symm rfl
     ·have h:=aq hb676 h
      refine bl (az (az (bm ?_)))
      refine ag [0,2] (by kernel_rfl) (es':=[(_,_),(_,_)]) rfl ?_
      exact hl671 _ (ho673 _ (zi h).symm).symm
   ·rintro u512 hl513 hr514 ⟨s376,s377⟩ rr517 h ho515
    refine ab ?_
    refine aL hn 4 [2,3,5,6,7,50] ?_
    refine al _ rfl (fun hb518 => ?_) (fun hb518 => ?_)
    ·have h:=ar hb518 h
     refine au ?_
     refine ae (ab ?_)
     refine aJ (ab ?_)
     obtain ⟨v43,hv43,h⟩:=zn h
     obtain ⟨v44,hv44,h⟩:=zn h
     obtain ⟨v45,hv45,h⟩:=zn h
     obtain ⟨v46,hv46,h⟩:=zn h
     obtain ⟨v47,hv47,h⟩:=zn h
     obtain ⟨v48,hv48,h⟩:=zn h
     obtain ⟨v49,hv49,h⟩:=zn h
     obtain ⟨v50,hv50,h⟩:=zn h
     refine wb [[5]] ?_
     refine wN [53,5] ?_
     refine wo [] ⟨li hv43⟩ ?_
     refine wN [54,5] ?_
     refine wo [[]] ⟨ll hv44⟩ ?_
     refine wN [56,5] ?_
     refine wo [] ⟨li hv45⟩ ?_
     refine wN [57,5] ?_
     refine wo [[]] ⟨ll hv46⟩ ?_
     refine wN [59,5] ?_
     refine wo [] ⟨li hv47⟩ ?_
     refine wN [60,5] ?_
     refine wo [[]] ⟨ll hv48⟩ ?_
     refine wN [62,5] ?_
     refine wo [] ⟨li hv49⟩ ?_
     refine wN [63,5] ?_
     refine wo [[55],[58],[61],[64]] ⟨ll hv50⟩ ?_
     refine tg hn [2,3,5,6,7,8,9,10,11] ?_
     refine ab ?_
     refine aL hn 1 [2,3,5,6,7,8,9,10,11,12] ?_
     refine aZ h (fun ((s580,s581,s582,s583,s584):Int×Int×Int×Int×Int)=>[(2,.arr 91 (map (int .u8) ((List.replicate 16 (0:Int))))),(3,.fl (.own 5) 1 (map (int .u8) s33)),(5,.fl (.own 106) 1 (map (int .u32) s376)),(6,.fl (.own 106) 1 (map (int .u32) v41)),(7,vi s377),(8,.v (.int .u32 s580)),(9,.v (.int .u32 s581)),(10,.v (.int .u32 s582)),(11,.v (.int .u32 s583)),(12,vi s584)]) (fun ((s613,s614,s615,s616):Int×Int×Int×Int)=>[(2,.arr 91 (map (int .u8) ((List.replicate 16 (0:Int))))),(3,.fl (.own 5) 1 (map (int .u8) s33)),(5,.fl (.own 106) 1 (map (int .u32) s376)),(6,.fl (.own 106) 1 (map (int .u32) v41)),(7,vi s377),(8,.v (.int .u32 s613)),(9,.v (.int .u32 s614)),(10,.v (.int .u32 s615)),(11,.v (.int .u32 s616))]) ?_ ?_
     ·rintro ⟨s613,s614,s615,s616⟩ h
      refine ae ?_
      obtain ⟨v220,hv220,h⟩:=zn h
      obtain ⟨v221,hv221,h⟩:=zn h
      obtain ⟨v222,hv222,h⟩:=zn h
      obtain ⟨v223,hv223,h⟩:=zn h
      obtain ⟨v224,hv224,h⟩:=zn h
      obtain ⟨v225,hv225,h⟩:=zn h
      obtain ⟨v226,hv226,h⟩:=zn h
      obtain ⟨v227,hv227,h⟩:=zn h
      obtain ⟨v228,hv228,h⟩:=zn h
      obtain ⟨v229,hv229,h⟩:=zn h
      obtain ⟨v230,hv230,h⟩:=zn h
      obtain ⟨v231,hv231,h⟩:=zn h
      obtain ⟨v232,hv232,h⟩:=zn h
      obtain ⟨v233,hv233,h⟩:=zn h
      obtain ⟨v234,hv234,h⟩:=zn h
      obtain ⟨v235,hv235,h⟩:=zn h
      obtain ⟨v236,hv236,h⟩:=zn h
      obtain ⟨v237,hv237,h⟩:=zn h
      obtain ⟨v238,hv238,h⟩:=zn h
      obtain ⟨v239,hv239,h⟩:=zn h
      refine wb [[5],[],[],[],[5]] ?_
      refine wN [150,5] ?_
      refine wo [] ⟨li hv220⟩ ?_
      refine wN [151,5] ?_
      refine wo [[8]] ⟨ll hv221⟩ ?_
      refine wN [152,153] ?_
      refine wo [[5]] ⟨lb hv222⟩ ?_
      refine wN [155,5] ?_
      refine wo [] ⟨li hv223⟩ ?_
      refine wN [156,5] ?_
      refine wo [[9]] ⟨ll hv224⟩ ?_
      refine wN [157,158] ?_
      refine wo [[5]] ⟨lb hv225⟩ ?_
      refine wN [160,5] ?_
      refine wo [] ⟨li hv226⟩ ?_
      refine wN [161,5] ?_
      refine wo [[10]] ⟨ll hv227⟩ ?_
      refine wN [162,163] ?_
      refine wo [[5]] ⟨lb hv228⟩ ?_
      refine wN [165,5] ?_
      refine wo [] ⟨li hv229⟩ ?_
      refine wN [166,5] ?_
      refine wo [[11]] ⟨ll hv230⟩ ?_
      refine wN [167,168] ?_
      refine wo [] ⟨lb hv231⟩ ?_
      refine wN [146,5] ?_
      refine wo [] ⟨li hv232⟩ ?_
      refine wK [5] [170,154] ?_
      refine wt [(5,.fl (.own 106) 1 (map (int .u32) v233))] [] ⟨iQ _ _ _ _ _ _ _ _ eH rfl rfl rfl (by decide) (oo (bz hv232).2) ((map_set (f:=int .u32) _ (bz hv232).2).trans (congrArg (map _) (Option.some.inj hv233)))⟩ ?_
      refine wN [147,5] ?_
      refine wo [] ⟨li hv234⟩ ?_
      refine wK [5] [171,159] ?_
      refine wt [(5,.fl (.own 106) 1 (map (int .u32) v235))] [] ⟨iQ _ _ _ _ _ _ _ _ eH rfl rfl rfl (by decide) (oo (bz hv234).2) ((map_set (f:=int .u32) _ (bz hv234).2).trans (congrArg (map _) (Option.some.inj hv235)))⟩ ?_
      refine wN [148,5] ?_
      refine wo [] ⟨li hv236⟩ ?_
      refine wK [5] [172,164] ?_
      refine wt [(5,.fl (.own 106) 1 (map (int .u32) v237))] [] ⟨iQ _ _ _ _ _ _ _ _ eH rfl rfl rfl (by decide) (oo (bz hv236).2) ((map_set (f:=int .u32) _ (bz hv236).2).trans (congrArg (map _) (Option.some.inj hv237)))⟩ ?_
      refine wN [149,5] ?_
      refine wo [] ⟨li hv238⟩ ?_
      refine wK [5] [173,169] ?_
      refine wt [(5,.fl (.own 106) 1 (map (int .u32) v239))] [] ⟨iQ _ _ _ _ _ _ _ _ eH rfl rfl rfl (by decide) (oo (bz hv238).2) ((map_set (f:=int .u32) _ (bz hv238).2).trans (congrArg (map _) (Option.some.inj hv239)))⟩ ?_
      refine we hn [2,3,5,6,7] ?_
      refine aP (ae ?_)
      obtain ⟨v240,hv240,h⟩:=zn h
      refine yx hn 1 ?_
      refine ys 0 ⟨lb hv240⟩ ?_
      refine yw [7] 1 ?_
      refine ye [2,3,5,6,7] ?_
      exact bn _ (zi h).symm rfl
     ·rintro u617 hl618 hr619 ⟨s580,s581,s582,s583,s584⟩ rr622 h ho620
      refine ab ?_
      refine aL hn 2 [2,3,5,6,7,8,9,10,11,12,66] ?_
      refine al _ rfl (fun hb623 => ?_) (fun hb623 => ?_)
      ·have h:=ar hb623 h
       refine au ?_
       refine ae (ab ?_)
       refine aJ ?_
       refine aL hn 2 [2,3,5,6,7,8,9,10,11,12] ?_
       refine ab ?_
       refine aC h (fun ((s635,s636):Int×Int)=>[(2,.arr 91 (map (int .u8) ((List.replicate 16 (0:Int))))),(3,.fl (.own 5) 1 (map (int .u8) s33)),(5,.fl (.own 106) 1 (map (int .u32) s376)),(6,.fl (.own 106) 1 (map (int .u32) v41)),(7,vi s377),(8,.v (.int .u32 s580)),(9,.v (.int .u32 s581)),(10,.v (.int .u32 s582)),(11,.v (.int .u32 s583)),(12,vi s584),(13,.v (.int .u32 s635)),(14,vi s636)]) ?_ ?_
       ·rintro ⟨s635,s636⟩ h
        refine ae (ab ?_)
        obtain ⟨v101,hv101,h⟩:=zn h
        obtain ⟨v102,hv102,h⟩:=zn h
        obtain ⟨v103,hv103,h⟩:=zn h
        obtain ⟨v104,hv104,h⟩:=zn h
        obtain ⟨v105,hv105,h⟩:=zn h
        obtain ⟨v106,hv106,h⟩:=zn h
        obtain ⟨v107,hv107,h⟩:=zn h
        obtain ⟨v108,hv108,h⟩:=zn h
        refine wb [[13],[8]] ?_
        refine wN [116,117] ?_
        refine wo [[6],[12]] ⟨lb hv101⟩ ?_
        refine wN [119,6,120] ?_
        refine wo [] ⟨li hv102⟩ ?_
        refine wN [121,6] ?_
        refine wo [] ⟨ll hv103⟩ ?_
        refine wN [118,122] ?_
        refine wo [[3],[7],[14]] ⟨lb hv104⟩ ?_
        refine wN [126] ?_
        refine wo [] ⟨lb hv105⟩ ?_
        refine wN [125,127] ?_
        refine wo [] ⟨lb hv106⟩ ?_
        refine wN [124,3,128] ?_
        refine wo [] ⟨lk call78 (nK _ _ _ hv107)⟩ ?_
        refine wN [123,129] ?_
        refine wo [] ⟨lb hv108⟩ ?_
        refine wK [13] [130] ?_
        refine wt [(13,.v (.int .u32 v108))] [] ⟨aU.drop [_] (iL _ _ _ _ rfl rfl)⟩ ?_
        refine tg hn [2,3,5,6,7,9,10,11,12,13] ?_
        refine fu hn 4 ?_
        refine yw [11] 1 ?_
        refine yw [10] 1 ?_
        refine ba [2,3,5,6,7,9,12,13,8,11,10] ?_
        refine ab ?_
        obtain ⟨v109,hv109,h⟩:=zn h
        refine yx hn 1 ?_
        refine ys 1 ⟨lk call79 (mq _ _ hv109)⟩ ?_
        refine ba [2,3,5,6,7,9,12,13,8,11,10,15] ?_
        obtain ⟨v110,hv110,h⟩:=zn h
        obtain ⟨v111,hv111,h⟩:=zn h
        obtain ⟨v112,hv112,h⟩:=zn h
        obtain ⟨v113,hv113,h⟩:=zn h
        obtain ⟨v114,hv114,h⟩:=zn h
        refine yx hn 3 ?_
        refine ys 2 ⟨lB (jK hv110)⟩ ?_
        refine ys 0 ⟨lb hv111⟩ ?_
        refine ys 0 ⟨lB (gF hv112)⟩ ?_
        refine ys 0 ⟨lb hv113⟩ ?_
        refine ys 0 ⟨lb hv114⟩ ?_
        refine yw [9] 1 ?_
        refine ye [2,3,5,6,7,12,8,11,10,9] ?_
        refine aP (ae ?_)
        obtain ⟨v115,hv115,h⟩:=zn h
        refine yx hn 1 ?_
        refine ys 0 ⟨lb hv115⟩ ?_
        refine yw [12] 1 ?_
        refine ye [2,3,5,6,7,8,11,10,9,12] ?_
        refine ag [0,1,2,3,4,5,8,7,6,9] (by kernel_rfl) (es':=[(_,_),(_,_),(_,_),(_,_),(_,_),(_,_),(_,_),(_,_),(_,_),(_,_)]) rfl ?_
        exact bn _ (zi h).symm rfl
       ·intro u637 h hl638 hr639
        refine ab ?_
        obtain ⟨v52,hv52,h⟩:=zn h
        refine yx hn 1 ?_
        refine ys 0 ⟨lB (mY hv52)⟩ ?_
        refine ba [2,3,5,6,7,8,9,10,11,12,70] ?_
        refine aC h (fun ((s643,s644):Int×Int)=>[(2,.arr 91 (map (int .u8) ((List.replicate 16 (0:Int))))),(3,.fl (.own 5) 1 (map (int .u8) s33)),(5,.fl (.own 106) 1 (map (int .u32) s376)),(6,.fl (.own 106) 1 (map (int .u32) v41)),(7,vi s377),(8,.v (.int .u32 s580)),(9,.v (.int .u32 s581)),(10,.v (.int .u32 s582)),(11,.v (.int .u32 s583)),(12,vi s584),(13,.v (.int .u32 s643)),(14,vi s644)]) ?_ ?_
        ·rintro ⟨s643,s644⟩ h
         exact hl638 _ (zi h).symm
        ·intro u645 h hl646 hr647
         refine aJ ?_
         refine aL hn 2 [2,3,5,6,7,8,9,10,11,12,70,80] ?_
         refine al _ rfl (fun hb648 => ?_) (fun hb648 => ?_)
         ·have h:=ar hb648 h
          obtain ⟨v54,hv54,h⟩:=zn h
          obtain ⟨v55,hv55,h⟩:=zn h
          obtain ⟨v56,hv56,h⟩:=zn h
          obtain ⟨v57,hv57,h⟩:=zn h
          refine yx hn 2 ?_
          refine ys 1 ⟨lb hv54⟩ ?_
          refine yS (.v (.int .u32 v55)) 1 ⟨ub _ _ _ _ rfl (vO (f:=int .u32) (Option.some.inj hv55))⟩ ?_
          refine ys 0 ⟨lb hv56⟩ ?_
          refine ys 3 ⟨lb hv57⟩ ?_
          refine ye [2,3,5,6,7,8,9,10,11,12,13,14] ?_
          refine aP ?_
          exact hl646 _ (zi h).symm
         ·have h:=aq hb648 h
          refine aL hn 2 [2,3,5,6,7,8,9,10,11,12,70,91] ?_
          refine al _ rfl (fun hb649 => ?_) (fun hb649 => ?_)
          ·have h:=ar hb649 h
           obtain ⟨v59,hv59,h⟩:=zn h
           obtain ⟨v60,hv60,h⟩:=zn h
           obtain ⟨v61,hv61,h⟩:=zn h
           obtain ⟨v62,hv62,h⟩:=zn h
           obtain ⟨v63,hv63,h⟩:=zn h
           obtain ⟨v64,hv64,h⟩:=zn h
           obtain ⟨v65,hv65,h⟩:=zn h
           refine yx hn 2 ?_
           refine ys 1 ⟨lb hv59⟩ ?_
           refine yS (.v (.int .u32 v60)) 1 ⟨ub _ _ _ _ rfl (vO (f:=int .u32) (Option.some.inj hv60))⟩ ?_
           refine ys 0 ⟨lb hv61⟩ ?_
           refine ys 1 ⟨lb hv62⟩ ?_
           refine ys 0 ⟨lb hv63⟩ ?_
           refine ys 0 ⟨lb hv64⟩ ?_
           refine ys 2 ⟨lB (gC hv65)⟩ ?_
           refine ye [2,3,5,6,7,8,9,10,11,12,13,14] ?_
           refine aP ?_
           exact hl646 _ (zi h).symm
          ·have h:=aq hb649 h
           refine aL hn 2 [2,3,5,6,7,8,9,10,11,12,105] ?_
           refine al _ rfl (fun hb650 => ?_) (fun hb650 => ?_)
           ·have h:=ar hb650 h
            obtain ⟨v67,hv67,h⟩:=zn h
            obtain ⟨v68,hv68,h⟩:=zn h
            obtain ⟨v69,hv69,h⟩:=zn h
            obtain ⟨v70,hv70,h⟩:=zn h
            obtain ⟨v71,hv71,h⟩:=zn h
            refine yx hn 2 ?_
            refine ys 1 ⟨lb hv67⟩ ?_
            refine ys 1 ⟨lb hv68⟩ ?_
            refine ys 0 ⟨lb hv69⟩ ?_
            refine ys 0 ⟨lb hv70⟩ ?_
            refine ys 2 ⟨lB (gC hv71)⟩ ?_
            refine ye [2,3,5,6,7,8,9,10,11,12,13,14] ?_
            refine aP ?_
            exact hl646 _ (zi h).symm
           ·have h:=aq hb650 h
            obtain ⟨v72,hv72,h⟩:=zn h
            obtain ⟨v73,hv73,h⟩:=zn h
            obtain ⟨v74,hv74,h⟩:=zn h
            obtain ⟨v75,hv75,h⟩:=zn h
            obtain ⟨v76,hv76,h⟩:=zn h
            refine yx hn 3 ?_
            refine yS (.v (.int .u32 v72)) 0 ⟨ub _ _ _ _ rfl (vO (f:=int .u32) (Option.some.inj hv72))⟩ ?_
            refine ys 0 ⟨lb hv73⟩ ?_
            refine ys 1 ⟨lb hv74⟩ ?_
            refine ys 0 ⟨lb hv75⟩ ?_
            refine ys 2 ⟨lB (gC hv76)⟩ ?_
            refine ye [2,3,5,6,7,8,9,10,11,12,13,14] ?_
            refine aP ?_
            exact hl646 _ (zi h).symm
      ·have h:=aq hb623 h
       refine bl (az (az (bm ?_)))
       refine ag [0,1,2,3,4,5,6,7,8] (by kernel_rfl) (es':=[(_,_),(_,_),(_,_),(_,_),(_,_),(_,_),(_,_),(_,_),(_,_)]) rfl ?_
       exact hl618 _ (ho620 _ (zi h).symm).symm
    ·have h:=aq hb518 h
     refine bl (az (az (bm ?_)))
     refine ag [0,2] (by kernel_rfl) (es':=[(_,_),(_,_)]) rfl ?_
     exact hl513 _ (ho515 _ (zi h).symm).symm
  ·rintro u34 hl35 hr36 ⟨s30,s31⟩ rr39 h ho37
   refine ab ?_
   refine aL hn 2 [0,2,3,4,30] ?_
   refine al _ rfl (fun hb40 => ?_) (fun hb40 => ?_)
   ·have h:=ar hb40 h
    refine au ?_
    refine ae (ab ?_)
    refine aJ ?_
    obtain ⟨v19,hv19,h⟩:=zn h
    obtain ⟨v20,hv20,h⟩:=zn h
    obtain ⟨v21,hv21,h⟩:=zn h
    obtain ⟨v22,hv22,h⟩:=zn h
    obtain ⟨v23,hv23,h⟩:=zn h
    obtain ⟨v24,hv24,h⟩:=zn h
    obtain ⟨v25,hv25,h⟩:=zn h
    refine yx hn 0 ?_
    refine ym 2 ?_
    refine ys 0 ⟨lb hv19⟩ ?_
    refine ys 1 ⟨lv hv20⟩ ?_
    refine ys 0 ⟨lb hv21⟩ ?_
    refine ys 0 ⟨lv hv22⟩ ?_
    refine ys 0 ⟨lB (gF hv23)⟩ ?_
    refine ys 0 ⟨lv hv24⟩ ?_
    refine yS (.fl (.own 5) 1 (map (int .u8) [v24])) 0 ⟨aY _ _ 1 (.int .u8 0) (map (int .u8) [v24]) [(0,.int .u8 v24)] underlying28 jx qD (fun _ V w o a hv hes=>by have e0:=bU hv hes (x := .tmp 42) rfl; simp only [List.map_toArray,List.map_cons,List.map_nil,e0]; try rfl) (cd (by simp [Instr.fill,Value.cells]; rfl) (by simp [List.range,List.range.loop] <;> rfl)) (by simp [Value.oneCell']) rfl (by decide) (by decide) (by decide)⟩ ?_
    refine yp fQ hv25 0 ?_
    refine ya 0 ?_
    refine ye [0,2,4,3] ?_
    refine aP (ae ?_)
    obtain ⟨v26,hv26,h⟩:=zn h
    refine yx hn 1 ?_
    refine ys 0 ⟨lb hv26⟩ ?_
    refine yw [4] 1 ?_
    refine ye [0,2,3,4] ?_
    exact bn _ (zi h).symm rfl
   ·have h:=aq hb40 h
    refine bl (az (az (bm ?_)))
    refine ag [1,2] (by kernel_rfl) (es':=[(_,_),(_,_)]) rfl ?_
    exact hl35 _ (ho37 _ (zi h).symm).symm
 ·rintro u11 hl12 hr13 s8 rr16 h ho14
  refine ab (ab ?_)
  obtain ⟨v3,hv3,h⟩:=zn h
  refine yx hn 2 ?_
  refine ys 1 ⟨lB (gC hv3)⟩ ?_
  refine ba [0,2,3,25] ?_
  refine al _ rfl (fun hb17 => ?_) (fun hb17 => ?_)
  ·have h:=ar hb17 h
   refine au (ae (aJ ?_))
   obtain ⟨v5,hv5,h⟩:=zn h
   refine yx hn 0 ?_
   refine ym 0 ?_
   refine yS (.fl (.own 5) 1 (map (int .u8) [0])) 0 ⟨aY _ _ 1 (.int .u8 0) (map (int .u8) [0]) [(0,.int .u8 0)] underlying28 jx qD (fun _ V w o a hv hes=>by simp only [List.map_toArray,List.map_cons,List.map_nil]; try rfl) (cd (by simp [Instr.fill,Value.cells]; rfl) (by simp [List.range,List.range.loop] <;> rfl)) (by simp [Value.oneCell']) rfl (by decide) (by decide) (by decide)⟩ ?_
   refine yp fQ hv5 0 ?_
   refine ya 0 ?_
   refine ye [0,2,3] ?_
   refine aP ?_
   exact bn _ (zi h).symm rfl
  ·have h:=aq hb17 h
   refine bl (az (az (bm ?_)))
   refine ag [0,1,2] (by kernel_rfl) (es':=[(_,_),(_,_),(_,_)]) rfl ?_
   exact hl12 _ (ho14 _ (zi h).symm).symm
theorem mP (key:(List Int)) (text:(List Int)) (r:(List Int)) (h:Sh.eb key text=some r):bQ Tryz.prog 52 [.fl .shr 1 (map (int .u8) key),.fl .shr 1 (map (int .u8) text)] (.v (.agg (map (int .u8) r).toArray)):=by
 unfold Sh.eb at h
 refine yO 54 func52 fun g0 hn hio => ?_
 refine fu hn 0 ?_
 refine yS (.arr 91 (map (int .u8) ((List.replicate 16 (0:Int))))) 0 ⟨oA (bE _ qT)⟩ ?_
 refine ba [0,1,4] ?_
 refine ab ?_
 obtain ⟨v1,hv1,h⟩:=zn h
 refine yx hn 1 ?_
 refine ys 0 ⟨lk call33 (gw _ _ hv1)⟩ ?_
 refine ya 0 ?_
 refine ba [1,4,5] ?_
 refine ab ?_
 refine aC h (fun (s8:(List Int))=>[(1,fb text),(4,.arr 91 (map (int .u8) ((List.replicate 16 (0:Int))))),(5,.fl (.own 5) 1 (map (int .u8) s8))]) ?_ ?_
 ·rintro s8 h
  refine ae (ab ?_)
  refine aZ h (fun (s17:(List Int))=>[(1,fb text),(4,.arr 91 (map (int .u8) ((List.replicate 16 (0:Int))))),(5,.fl (.own 5) 1 (map (int .u8) s17))]) (fun (s19:(List Int))=>[(1,fb text),(4,.arr 91 (map (int .u8) ((List.replicate 16 (0:Int))))),(5,.fl (.own 5) 1 (map (int .u8) s19))]) ?_ ?_
  ·rintro s19 h
   refine ae ?_
   refine aL hn 2 [1,4,5,7,8] ?_
   refine ab ?_
   refine aL hn 1 [1,4,5,7,8,9] ?_
   refine nb (fs:=[(1,fb text),(4,.arr 91 (map (int .u8) ((List.replicate 16 (0:Int))))),(5,.fl (.own 5) 1 (map (int .u8) s19)),(7,.fl (.own 5) 1 (map (int .u8) [])),(8,.fl (.own 5) 1 (map (int .u8) [])),(9,vi 0)]) (.same _ (.same _ (.same _ (.sub _ (bO 5 1) rfl (.sub _ (bO 5 1) rfl (.same _ .nil)))))) ?_
   refine aZ h (fun ((s41,s42,s43):(List Int)×(List Int)×Int)=>[(1,fb text),(4,.arr 91 (map (int .u8) ((List.replicate 16 (0:Int))))),(5,.fl (.own 5) 1 (map (int .u8) s19)),(7,.fl (.own 5) 1 (map (int .u8) s41)),(8,.fl (.own 5) 1 (map (int .u8) s42)),(9,vi s43)]) (fun ((s45,s46):(List Int)×(List Int))=>[(1,fb text),(4,.arr 91 (map (int .u8) ((List.replicate 16 (0:Int))))),(7,.fl (.own 5) 1 (map (int .u8) s45)),(8,.fl (.own 5) 1 (map (int .u8) s46))]) ?_ ?_
   ·rintro ⟨s45,s46⟩ h
    refine ae (ab ?_)
    obtain ⟨v54,hv54,h⟩:=zn h
    obtain ⟨v55,hv55,h⟩:=zn h
    obtain ⟨v56,hv56,h⟩:=zn h
    obtain ⟨v57,hv57,h⟩:=zn h
    refine yx hn 0 ?_
    refine ym 1 ?_
    refine yp fQ hv54 0 ?_
    refine ys 0 ⟨lk call67 (gK _ _ hv55)⟩ ?_
    refine yS (.arr 91 (map (int .u8) ((List.replicate 16 (0:Int))))) 0 ⟨oA (bE _ qT)⟩ ?_
    refine yk [10] [49] ?_
    refine yt (10,.arr 91 (map (int .u8) v55)) 0 ⟨bH _ _ _ _ (nH.trans (congrArg some (bh hv57))) rfl rfl (cX (fun _=>rfl) _) ((bh (f:=int .u8) hv56).symm.trans (bh (f:=int .u8) hv57))⟩ ?_
    refine ba [4,8,10] ?_
    refine ab ?_
    obtain ⟨v58,hv58,h⟩:=zn h
    obtain ⟨v59,hv59,h⟩:=zn h
    obtain ⟨v60,hv60,h⟩:=zn h
    obtain ⟨v61,hv61,h⟩:=zn h
    obtain ⟨v62,hv62,h⟩:=zn h
    refine yx hn 0 ?_
    refine ym 0 ?_
    refine yk [10] [] ?_
    refine mo (10,.any) (51,.fl .ro 1 (map (int .u8) v55)) 0 ⟨fM _ _ 10 16 _ underlying91 jx rfl (bh hv58).symm (cX (fun _=>rfl) _)⟩ ?_
    refine yp fQ hv59 0 ?_
    refine ys 0 ⟨lk call67 (gK _ _ hv60)⟩ ?_
    refine yk [4] [53] ?_
    refine yt (4,.arr 91 (map (int .u8) v60)) 0 ⟨bH _ _ _ _ (nH.trans (congrArg some (bh hv62))) rfl rfl (cX (fun _=>rfl) _) ((bh (f:=int .u8) hv61).symm.trans (bh (f:=int .u8) hv62))⟩ ?_
    refine ba [4] ?_
    refine ao ?_
    obtain ⟨v63,hv63,h⟩:=zn h
    obtain rfl:=zi h
    exact ay hio rfl (.cellR _ _ _ _ underlying91 rfl (nH.trans (congrArg some (bh hv63))) .nil) rfl rfl
   ·rintro u47 hl48 hr49 ⟨s41,s42,s43⟩ rr52 h ho50
    refine ab ?_
    refine aL hn 2 [1,4,5,7,8,9,27] ?_
    refine al _ rfl (fun hb53 => ?_) (fun hb53 => ?_)
    ·have h:=ar hb53 h
     refine au ?_
     refine ae (ab ?_)
     refine aJ ?_
     obtain ⟨v28,hv28,h⟩:=zn h
     obtain ⟨v29,hv29,h⟩:=zn h
     obtain ⟨v30,hv30,h⟩:=zn h
     obtain ⟨v31,hv31,h⟩:=zn h
     obtain ⟨v32,hv32,h⟩:=zn h
     obtain ⟨v33,hv33,h⟩:=zn h
     obtain ⟨v34,hv34,h⟩:=zn h
     obtain ⟨v35,hv35,h⟩:=zn h
     refine wb [] ?_
     refine wK [7] [] ?_
     refine wt [(30,.fl (.own 5) 1 (map (int .u8) s41))] [[5],[9]] ⟨iF _ _ _ _ rfl⟩ ?_
     refine wN [31,5,32] ?_
     refine wo [] ⟨li hv28⟩ ?_
     refine wN [33,5] ?_
     refine wo [] ⟨ll hv29⟩ ?_
     refine wN [34] ?_
     refine wo [] ⟨lb hv30⟩ ?_
     refine wN [35] ?_
     refine wS (.fl (.own 5) 1 (map (int .u8) [v30])) [] ⟨aY _ _ 1 (.int .u8 0) (map (int .u8) [v30]) [(0,.int .u8 v30)] underlying28 jx qD (fun _ V w o a hv hes=>by have e0:=bU hv hes (x := .tmp 35) rfl; simp only [List.map_toArray,List.map_cons,List.map_nil,e0]; try rfl) (cd (by simp [Instr.fill,Value.cells]; rfl) (by simp [List.range,List.range.loop] <;> rfl)) (by simp [Value.oneCell']) rfl (by decide) (by decide) (by decide)⟩ ?_
     refine wK [30] [36] ?_
     refine wt [(30,.any),(37,.fl (.own 5) 1 (map (int .u8) v31))] [] ⟨xN _ _ _ _ _ fQ rfl rfl (dQ _) (dQ _) hv31 ((List.map_append).symm.trans (congrArg (map _) (ib hv31)))⟩ ?_
     refine wK [8] [] ?_
     refine wt [(38,.fl (.own 5) 1 (map (int .u8) s42))] [[5],[9]] ⟨iF _ _ _ _ rfl⟩ ?_
     refine wN [39,5,40] ?_
     refine wo [] ⟨li hv32⟩ ?_
     refine wN [41,5] ?_
     refine wo [] ⟨ll hv33⟩ ?_
     refine wN [42] ?_
     refine wo [] ⟨lb hv34⟩ ?_
     refine wN [43] ?_
     refine wS (.fl (.own 5) 1 (map (int .u8) [v34])) [] ⟨aY _ _ 1 (.int .u8 0) (map (int .u8) [v34]) [(0,.int .u8 v34)] underlying28 jx qD (fun _ V w o a hv hes=>by have e0:=bU hv hes (x := .tmp 43) rfl; simp only [List.map_toArray,List.map_cons,List.map_nil,e0]; try rfl) (cd (by simp [Instr.fill,Value.cells]; rfl) (by simp [List.range,List.range.loop] <;> rfl)) (by simp [Value.oneCell']) rfl (by decide) (by decide) (by decide)⟩ ?_
     refine wK [38] [44] ?_
     refine wt [(38,.any),(45,.fl (.own 5) 1 (map (int .u8) v35))] [] ⟨xN _ _ _ _ _ fQ rfl rfl (dQ _) (dQ _) hv35 ((List.map_append).symm.trans (congrArg (map _) (ib hv35)))⟩ ?_
     refine wK [37] [] ?_
     refine wt [(7,.fl (.own 5) 1 (map (int .u8) v31))] [] ⟨fJ _ _ _ _ rfl⟩ ?_
     refine wK [45] [] ?_
     refine wt [(8,.fl (.own 5) 1 (map (int .u8) v35))] [] ⟨fJ _ _ _ _ rfl⟩ ?_
     refine we hn [1,4,5,9,7,8] ?_
     refine aP (ae ?_)
     obtain ⟨v36,hv36,h⟩:=zn h
     refine yx hn 1 ?_
     refine ys 0 ⟨lb hv36⟩ ?_
     refine yw [9] 1 ?_
     refine ye [1,4,5,7,8,9] ?_
     exact bn _ (zi h).symm rfl
    ·have h:=aq hb53 h
     refine bl (az (az (bm ?_)))
     refine ag [0,1,3,4] (by kernel_rfl) (es':=[(_,_),(_,_),(_,_),(_,_)]) rfl ?_
     exact hl48 _ (ho50 _ (zi h).symm).symm
  ·rintro u20 hl21 hr22 s17 rr25 h ho23
   refine ab ?_
   refine aL hn 3 [1,4,5,22] ?_
   refine al _ rfl (fun hb26 => ?_) (fun hb26 => ?_)
   ·have h:=ar hb26 h
    refine au (ae (aJ ?_))
    obtain ⟨v14,hv14,h⟩:=zn h
    refine yx hn 0 ?_
    refine ym 0 ?_
    refine yS (.fl (.own 5) 1 (map (int .u8) [0])) 0 ⟨aY _ _ 1 (.int .u8 0) (map (int .u8) [0]) [(0,.int .u8 0)] underlying28 jx qD (fun _ V w o a hv hes=>by simp only [List.map_toArray,List.map_cons,List.map_nil]; try rfl) (cd (by simp [Instr.fill,Value.cells]; rfl) (by simp [List.range,List.range.loop] <;> rfl)) (by simp [Value.oneCell']) rfl (by decide) (by decide) (by decide)⟩ ?_
    refine yp fQ hv14 0 ?_
    refine ya 0 ?_
    refine ye [1,4,5] ?_
    refine aP ?_
    exact bn _ (zi h).symm rfl
   ·have h:=aq hb26 h
    refine bl (az (az (bm ?_)))
    refine ag [0,1,2] (by kernel_rfl) (es':=[(_,_),(_,_),(_,_)]) rfl ?_
    exact hl21 _ (ho23 _ (zi h).symm).symm
 ·intro u9 h hl10 hr11
  refine aL hn 3 [1,4,5,15] ?_
  refine al _ rfl (fun hb12 => ?_) (fun hb12 => ?_)
  ·have h:=ar hb12 h
   refine ab ?_
   obtain ⟨v3,hv3,h⟩:=zn h
   obtain ⟨v4,hv4,h⟩:=zn h
   obtain ⟨v5,hv5,h⟩:=zn h
   refine yx hn 0 ?_
   refine ym 0 ?_
   refine ys 0 ⟨lk call67 (gK _ _ hv3)⟩ ?_
   refine yS (.arr 91 (map (int .u8) ((List.replicate 16 (0:Int))))) 0 ⟨oA (bE _ qT)⟩ ?_
   refine yk [6] [17] ?_
   refine yt (6,.arr 91 (map (int .u8) v3)) 0 ⟨bH _ _ _ _ (nH.trans (congrArg some (bh hv5))) rfl rfl (cX (fun _=>rfl) _) ((bh (f:=int .u8) hv4).symm.trans (bh (f:=int .u8) hv5))⟩ ?_
   refine ba [1,4,6] ?_
   obtain ⟨v6,hv6,h⟩:=zn h
   obtain ⟨v7,hv7,h⟩:=zn h
   refine yx hn 0 ?_
   refine yk [6] [] ?_
   refine mo (6,.any) (18,.fl .ro 1 (map (int .u8) v3)) 0 ⟨fM _ _ 6 16 _ underlying91 jx rfl (bh hv6).symm (cX (fun _=>rfl) _)⟩ ?_
   refine ys 0 ⟨lk call33 (gw _ _ hv7)⟩ ?_
   refine ya 0 ?_
   refine ye [1,4,5] ?_
   exact hl10 _ (zi h).symm
  ·have h:=aq hb12 h
   refine au ?_
   refine ag [0,1,2] (by kernel_rfl) (es':=[(_,_),(_,_),(_,_)]) rfl ?_
   exact hl10 _ (zi h).symm
end Go.Proofs.YtjnnkhmhjcjhdaaGreatDoor
