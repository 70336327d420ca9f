import Derived.Test.YtjnnkhmhjcjhdaaGreatDoorShelf
import Derived.Test.YtjnnkhmhjcjhdaaGreatDoorIdx
import Derived.Test.YtjnnkhmhjcjhdaaGreatDoorSh
set_option linter.unusedVariables false
set_option linter.unusedSimpArgs false
set_option maxHeartbeats 1000000
namespace Go.Proofs.YtjnnkhmhjcjhdaaGreatDoor
open Go.Abs Go.Abs.Sh Tryz
open List (map flatten)
open Value (int)
def GL (mx:Int×Nat×Value):List (Nat×List Value):=[(0,[.int .i64 mx.1]),(1,(List.map (Value.int .u8) gU)),(2,(List.map (Value.int .u8) jy)),(3,[.iface mx.2.1 mx.2.2]),(5,(List.map (Value.int .u32) cZ)),(6,(List.map (Value.int .i64) dO)),(7,(List.map (Value.int .u64) gH))]
theorem uv (mx:Int×Nat×Value):(0,([.int .i64 mx.1]:List Value))∈GL mx := .head _
theorem yW (mx:Int×Nat×Value):(1,((List.map (Value.int .u8) gU):List Value))∈GL mx := .tail _ (.head _)
theorem Du (mx:Int×Nat×Value):(2,((List.map (Value.int .u8) jy):List Value))∈GL mx := .tail _ (.tail _ (.head _))
theorem Dq (mx:Int×Nat×Value):(3,([.iface mx.2.1 mx.2.2]:List Value))∈GL mx := .tail _ (.tail _ (.tail _ (.head _)))
theorem DS (mx:Int×Nat×Value):(5,((List.map (Value.int .u32) cZ):List Value))∈GL mx := .tail _ (.tail _ (.tail _ (.tail _ (.head _))))
theorem Dd (mx:Int×Nat×Value):(6,((List.map (Value.int .i64) dO):List Value))∈GL mx := .tail _ (.tail _ (.tail _ (.tail _ (.tail _ (.head _)))))
theorem DQ (mx:Int×Nat×Value):(7,((List.map (Value.int .u64) gH):List Value))∈GL mx := .tail _ (.tail _ (.tail _ (.tail _ (.tail _ (.tail _ (.head _))))))
theorem Fz:(Tryz.prog.info? 24).map (·.size)=some 7:=by kernel_rfl
theorem JC:(Tryz.prog.info? 22).map (·.size)=some 2:=by kernel_rfl
theorem rL:(Tryz.prog.info? 9).map (·.size)=some 1:=by kernel_rfl
instance iFO24_0:FO Tryz.prog 24 0 0:=⟨by kernel_rfl⟩
instance iAG9:AS Tryz.prog 9:=⟨by kernel_rfl⟩
instance iUD9:UD Tryz.prog 9 .string:=⟨Tryz.underlying9⟩
instance iFO24_2:FO Tryz.prog 24 2 3:=⟨by kernel_rfl⟩
instance iFO24_3:FO Tryz.prog 24 3 4:=⟨by kernel_rfl⟩
instance iAG24:AA Tryz.prog 24 7:=⟨by kernel_rfl⟩
theorem pj:(Tryz.prog.info? 30).map (·.size)=some 10:=by kernel_rfl
theorem sN:(Tryz.prog.info? 26).map (·.size)=some 3:=by kernel_rfl
theorem kQ:(Tryz.prog.info? 28).map (·.size)=some 1:=by kernel_rfl
instance iFO30_1:FO Tryz.prog 30 1 1:=⟨by kernel_rfl⟩
instance iFO30_2:FO Tryz.prog 30 2 2:=⟨by kernel_rfl⟩
instance iFO26_1:FO Tryz.prog 26 1 1:=⟨by kernel_rfl⟩
instance iFO26_2:FO Tryz.prog 26 2 2:=⟨by kernel_rfl⟩
instance iFO30_5:FO Tryz.prog 30 5 7:=⟨by kernel_rfl⟩
instance iAG28:AS Tryz.prog 28:=⟨by kernel_rfl⟩
instance iUD28:UD Tryz.prog 28 (.slice 5):=⟨Tryz.underlying28⟩
instance iFO30_6:FO Tryz.prog 30 6 8:=⟨by kernel_rfl⟩
theorem Ht:(Tryz.prog.info? 27).map (·.size)=some 1:=by kernel_rfl
instance iFO30_3:FO Tryz.prog 30 3 5:=⟨by kernel_rfl⟩
instance iAG27:AS Tryz.prog 27:=⟨by kernel_rfl⟩
instance iUD27:UD Tryz.prog 27 (.slice 26):=⟨Tryz.underlying27⟩
instance iLT_Path:LenE T_Path.enc 3:=⟨T_Path.len⟩
instance iSZ26:SZ Tryz.prog 26 3:=⟨by kernel_rfl⟩
instance iAG30:AA Tryz.prog 30 10:=⟨by kernel_rfl⟩
instance iUD31:UD Tryz.prog 31 (.slice 3):=⟨Tryz.underlying31⟩
theorem sS:(Tryz.prog.info? 30).bind (·.zero)=some (.agg #[.int .i64 0,.string ByteArray.empty,.bool false,.string ByteArray.empty,.string ByteArray.empty,.slice none 0 0,.bool false,.slice none 0 0,.string ByteArray.empty,.bool false]):=by kernel_rfl
theorem Io:(Tryz.prog.info? 4).bind (·.zero)=some (.bool false):=by kernel_rfl
instance iUD5:UD Tryz.prog 5 (.int .u8):=⟨Tryz.underlying5⟩
instance iUD21:UD Tryz.prog 21 (.int .i32):=⟨Tryz.underlying21⟩
theorem lQ:(Tryz.prog.info? 5).map (·.size)=some 1:=by kernel_rfl
instance iUD3:UD Tryz.prog 3 (.int .i64):=⟨Tryz.underlying3⟩
instance iAG3:AS Tryz.prog 3:=⟨by kernel_rfl⟩
instance iAG65:AS Tryz.prog 65:=⟨by kernel_rfl⟩
theorem JZ:(Tryz.prog.info? 4).map (·.size)=some 1:=by kernel_rfl
instance iAG4:AS Tryz.prog 4:=⟨by kernel_rfl⟩
theorem FS:(Tryz.prog.info? 3).map (·.size)=some 1:=by kernel_rfl
instance iFO24_1:FO Tryz.prog 24 1 2:=⟨by kernel_rfl⟩
instance iFO24_4:FO Tryz.prog 24 4 5:=⟨by kernel_rfl⟩
theorem Fp:∀ fs,Tryz.prog.underlying 30=some (.struct fs)→fs.toList.map (fun f=>(Tryz.prog.info? f.type).map (·.size))=([1,1,3,1,1,1,1,1]:List Nat).map some:=by
 intro fs h
 rw [Tryz.underlying30] at h
 cases h
 kernel_rfl
instance iFO30_0:FO Tryz.prog 30 0 0:=⟨by kernel_rfl⟩
theorem Hh:fM Tryz.prog 27 26 3 40:=⟨⟨Tryz.t26,.agg #[.bool false,.string ByteArray.empty,.string ByteArray.empty],Tryz.underlying27,by kernel_rfl,by kernel_rfl,by kernel_rfl,by kernel_rfl,by decide,by kernel_rfl⟩⟩
theorem jN:fM Tryz.prog 28 5 1 1:=⟨⟨Tryz.t5,.int .u8 0,Tryz.underlying28,by kernel_rfl,by kernel_rfl,by kernel_rfl,by kernel_rfl,by decide,by kernel_rfl⟩⟩
theorem IY:∀ fs,Tryz.prog.underlying 80=some (.struct fs)→fs.toList.map (fun f=>(Tryz.prog.info? f.type).map (·.size))=([10,7,1,1,1]:List Nat).map some:=by
 intro fs h
 rw [Tryz.underlying80] at h
 cases h
 kernel_rfl
theorem IU:(Tryz.prog.info? 80).bind (·.zero)=some (.agg #[.int .i64 0,.string ByteArray.empty,.bool false,.string ByteArray.empty,.string ByteArray.empty,.slice none 0 0,.bool false,.slice none 0 0,.string ByteArray.empty,.bool false,.string ByteArray.empty,.string ByteArray.empty,.int .i64 0,.string ByteArray.empty,.string ByteArray.empty,.int .i64 0,.bool false,.int .i64 0,.int .i64 0,.slice none 0 0]):=by kernel_rfl
instance iSZ5:SZ Tryz.prog 5 1:=⟨by kernel_rfl⟩
instance iAG5:AS Tryz.prog 5:=⟨by kernel_rfl⟩
theorem uA:(Tryz.prog.info? 5).bind (·.zero)=some (.int .u8 0):=by kernel_rfl
instance iFO80_0:FO Tryz.prog 80 0 0:=⟨by kernel_rfl⟩
abbrev aa.b (x:aa):List AV:=[.v (.int .i64 x.Kk.KC),.v (.string x.Kk.Kn),.v (.bool x.Kk.Kj.Kx),.v (.string x.Kk.Kj.Ks),.v (.string x.Kk.Kj.Kg),.fl (.own 26) 3 (List.flatten (List.map T_Path.enc x.Kk.To)),.v (.bool x.Kk.KE),.mkr 5 (List.map (Value.int .u8) x.Kk.Kd),.v (.string x.Kk.Ke),.v (.bool x.Kk.KD),.v (.string ((x.config.Kh.getD 0 (⟨#[]⟩:KK)))),.v (.string ((x.config.Kh.getD 1 (⟨#[]⟩:KK)))),.v (.int .i64 x.config.Ki),.v (.string x.config.KI),.v (.string x.config.KG),.v (.int .i64 x.config.Kt),.v (.bool x.config.Km),.v (.int .i64 x.site),.v (.int .i64 x.at_),.fr (.own 55) false 12 (List.flatten (List.map ap.ienc x.out))]
theorem De:(Tryz.prog.info? 28).bind (·.zero)=some (.slice none 0 0):=by kernel_rfl
theorem Iw:(Tryz.prog.info? 3).bind (·.zero)=some (.int .i64 0):=by kernel_rfl
theorem Ja:(Tryz.prog.info? 35).bind (·.zero)=some (.int .i64 0):=by kernel_rfl
instance iAG35:AS Tryz.prog 35:=⟨by kernel_rfl⟩
theorem Dr:(Tryz.prog.info? 51).bind (·.zero)=some (.agg #[.int .i64 0,.slice none 0 0]):=by kernel_rfl
theorem EP:(Tryz.prog.info? 153).bind (·.zero)=some (.agg #[.pointer none,.slice none 0 0]):=by kernel_rfl
instance iUD106:UD Tryz.prog 106 (.int .u32):=⟨Tryz.underlying106⟩
theorem Il:(Tryz.prog.info? 9).bind (·.zero)=some (.string ByteArray.empty):=by kernel_rfl
theorem GE:∀ fs,Tryz.prog.underlying 51=some (.struct fs)→fs.toList.map (fun f=>(Tryz.prog.info? f.type).map (·.size))=([1,1]:List Nat).map some:=by
 intro fs h
 rw [Tryz.underlying51] at h
 cases h
 kernel_rfl
theorem qQ:(Tryz.prog.info? 51).map (·.size)=some 2:=by kernel_rfl
theorem BH:∀ fs,Tryz.prog.underlying 55=some (.struct fs)→fs.toList.map (fun f=>(Tryz.prog.info? f.type).map (·.size))=([2,1,8,1]:List Nat).map some:=by
 intro fs h
 rw [Tryz.underlying55] at h
 cases h
 kernel_rfl
theorem ta:(Tryz.prog.info? 55).bind (·.zero)=some (.agg #[.int .i64 0,.slice none 0 0,.bool false,.bool false,.string ByteArray.empty,.string ByteArray.empty,.slice none 0 0,.slice none 0 0,.bool false,.string ByteArray.empty,.int .i64 0,.bool false]):=by kernel_rfl
theorem wl:(Tryz.prog.info? 55).map (·.size)=some 12:=by kernel_rfl
theorem IW:∀ fs,Tryz.prog.underlying 53=some (.struct fs)→fs.toList.map (fun f=>(Tryz.prog.info? f.type).map (·.size))=([3,1,1,1,1,1]:List Nat).map some:=by
 intro fs h
 rw [Tryz.underlying53] at h
 cases h
 kernel_rfl
theorem Ck:(Tryz.prog.info? 53).bind (·.zero)=some (.agg #[.bool false,.string ByteArray.empty,.string ByteArray.empty,.slice none 0 0,.slice none 0 0,.bool false,.string ByteArray.empty,.int .i64 0]):=by kernel_rfl
theorem uN:(Tryz.prog.info? 53).map (·.size)=some 8:=by kernel_rfl
instance iAG26:AA Tryz.prog 26 3:=⟨by kernel_rfl⟩
theorem Ju:∀ fs,Tryz.prog.underlying 62=some (.struct fs)→fs.toList.map (fun f=>(Tryz.prog.info? f.type).map (·.size))=([1,1,1]:List Nat).map some:=by
 intro fs h
 rw [Tryz.underlying62] at h
 cases h
 kernel_rfl
theorem IX:(Tryz.prog.info? 62).bind (·.zero)=some (.agg #[.int .i64 0,.int .i64 0,.slice none 0 0]):=by kernel_rfl
instance iFO62_0:FO Tryz.prog 62 0 0:=⟨by kernel_rfl⟩
instance iFO62_1:FO Tryz.prog 62 1 1:=⟨by kernel_rfl⟩
instance iFO62_2:FO Tryz.prog 62 2 2:=⟨by kernel_rfl⟩
instance iAG60:AS Tryz.prog 60:=⟨by kernel_rfl⟩
instance iUD60:UD Tryz.prog 60 (.slice 53):=⟨Tryz.underlying60⟩
instance iLiT_Mail:LenI aH.ienc 8:=⟨aH.ilen⟩
instance iSZ53:SZ Tryz.prog 53 8:=⟨by kernel_rfl⟩
instance iAG53:AA Tryz.prog 53 8:=⟨by kernel_rfl⟩
theorem Be:∀ fs,Tryz.prog.underlying 26=some (.struct fs)→fs.toList.map (fun f=>(Tryz.prog.info? f.type).map (·.size))=([1,1,1]:List Nat).map some:=by
 intro fs h
 rw [Tryz.underlying26] at h
 cases h
 kernel_rfl
theorem sB:(Tryz.prog.info? 26).bind (·.zero)=some (.agg #[.bool false,.string ByteArray.empty,.string ByteArray.empty]):=by kernel_rfl
instance iFO26_0:FO Tryz.prog 26 0 0:=⟨by kernel_rfl⟩
instance iFO53_0:FO Tryz.prog 53 0 0:=⟨by kernel_rfl⟩
instance iFO53_1:FO Tryz.prog 53 1 3:=⟨by kernel_rfl⟩
instance iFO53_2:FO Tryz.prog 53 2 4:=⟨by kernel_rfl⟩
instance iFO53_3:FO Tryz.prog 53 3 5:=⟨by kernel_rfl⟩
instance iFO53_4:FO Tryz.prog 53 4 6:=⟨by kernel_rfl⟩
instance iFO53_5:FO Tryz.prog 53 5 7:=⟨by kernel_rfl⟩
instance iAG62:AA Tryz.prog 62 3:=⟨by kernel_rfl⟩
theorem yK:((Tryz.prog.info? 222).bind (·.zero)).map (·.cells.toList)=some (List.map (Value.int .u32) (List.replicate 16 (0:Int))):=by kernel_rfl
theorem im:(Tryz.prog.info? 106).map (·.size)=some 1:=by kernel_rfl
theorem zh:(Tryz.prog.info? 222).map (·.size)=some 16:=by kernel_rfl
instance iSZ3:SZ Tryz.prog 3 1:=⟨by kernel_rfl⟩
instance iFO30_4:FO Tryz.prog 30 4 6:=⟨by kernel_rfl⟩
instance iFO80_3:FO Tryz.prog 80 3 18:=⟨by kernel_rfl⟩
instance iAG55:AA Tryz.prog 55 12:=⟨by kernel_rfl⟩
theorem GN:(Tryz.prog.info? 137).bind (·.zero)=some (.slice none 0 0):=by kernel_rfl
theorem GQ:fM Tryz.prog 137 28 1 24:=⟨⟨Tryz.t28,.slice none 0 0,Tryz.underlying137,by kernel_rfl,by kernel_rfl,by kernel_rfl,by kernel_rfl,by decide,by kernel_rfl⟩⟩
theorem HW:(Tryz.prog.info? 137).map (·.size)=some 1:=by kernel_rfl
instance iAG137:AS Tryz.prog 137:=⟨by kernel_rfl⟩
instance iUD137:UD Tryz.prog 137 (.slice 28):=⟨Tryz.underlying137⟩
instance iLiRow_int_u8:LenI Row_int_u8.ienc 1:=⟨Row_int_u8.ilen⟩
instance iSZ28:SZ Tryz.prog 28 1:=⟨by kernel_rfl⟩
theorem Fl:(Tryz.prog.info? 34).map (·.size)=some 1:=by kernel_rfl
theorem DA:fM Tryz.prog 34 55 12 168:=⟨⟨Tryz.t55,.agg #[.int .i64 0,.slice none 0 0,.bool false,.bool false,.string ByteArray.empty,.string ByteArray.empty,.slice none 0 0,.slice none 0 0,.bool false,.string ByteArray.empty,.int .i64 0,.bool false],Tryz.underlying34,by kernel_rfl,by kernel_rfl,by kernel_rfl,by kernel_rfl,by decide,by kernel_rfl⟩⟩
instance iFO80_4:FO Tryz.prog 80 4 19:=⟨by kernel_rfl⟩
instance iAG34:AS Tryz.prog 34:=⟨by kernel_rfl⟩
theorem Dz:EU Tryz.prog 74 0:=fun p1 p2 n c1 k c2 xs ys m w hx hy hr1 hr2 h1 h2 hp1 hcap hs hk hm=>Tryz.bytes_Cut_all p1 p2 n c1 k c2 xs ys m w hx hy hr1 hr2 h1 h2 hp1 hcap hs hk hm
theorem zS:((Tryz.prog.info? 91).bind (·.zero)).map (·.cells.toList)=some (List.map (Value.int .u8) (List.replicate 16 (0:Int))):=by kernel_rfl
theorem Hb:((Tryz.prog.info? 205).bind (·.zero)).map (·.cells.toList)=some (List.map (Value.int .u8) (List.replicate 64 (0:Int))):=by kernel_rfl
theorem EE:(Tryz.prog.info? 225).bind (·.zero)=some (.agg #[.int .u32 0,.int .u32 0,.int .u32 0,.int .u32 0]):=by kernel_rfl
theorem EO:((Tryz.prog.info? 225).bind (·.zero)).map (·.cells.toList)=some (List.map (Value.int .u32) (List.replicate 4 (0:Int))):=by kernel_rfl
theorem rh:(Tryz.prog.info? 225).map (·.size)=some 4:=by kernel_rfl
theorem HK:(Tryz.prog.info? 241).map (·.size)=some 64:=by kernel_rfl
theorem GT:(Tryz.prog.info? 244).map (·.size)=some 4:=by kernel_rfl
instance iUD105:UD Tryz.prog 105 (.int .u64):=⟨Tryz.underlying105⟩
theorem xb:(Tryz.prog.info? 91).map (·.size)=some 16:=by kernel_rfl
theorem GD:(Tryz.prog.info? 205).map (·.size)=some 64:=by kernel_rfl
instance iFO80_1:FO Tryz.prog 80 1 10:=⟨by kernel_rfl⟩
instance iFO30_7:FO Tryz.prog 30 7 9:=⟨by kernel_rfl⟩
theorem lf:(Tryz.prog.info? 122).bind (·.zero)=some (.agg #[.int .i64 0,.string ByteArray.empty,.bool false,.string ByteArray.empty,.string ByteArray.empty,.slice none 0 0]):=by kernel_rfl
theorem rE:∀ fs,Tryz.prog.underlying 122=some (.struct fs)→fs.toList.map (fun f=>(Tryz.prog.info? f.type).map (·.size))=([1,1,3,1]:List Nat).map some:=by
 intro fs h
 rw [Tryz.underlying122] at h
 cases h
 kernel_rfl
theorem fO:(Tryz.prog.info? 122).map (·.size)=some 6:=by kernel_rfl
instance iAG122:AA Tryz.prog 122 6:=⟨by kernel_rfl⟩
instance iFO122_0:FO Tryz.prog 122 0 0:=⟨by kernel_rfl⟩
theorem EH:(Tryz.prog.info? 120).bind (·.zero)=some (.slice none 0 0):=by kernel_rfl
theorem HX:(Tryz.prog.info? 120).map (·.size)=some 1:=by kernel_rfl
instance iAG120:AS Tryz.prog 120:=⟨by kernel_rfl⟩
theorem qp:(Tryz.prog.info? 181).bind (·.zero)=some (.agg #[.string ByteArray.empty,.string ByteArray.empty]):=by kernel_rfl
theorem yZ:∀ fs,Tryz.prog.underlying 181=some (.struct fs)→fs.toList.map (fun f=>(Tryz.prog.info? f.type).map (·.size))=([1,1]:List Nat).map some:=by
 intro fs h
 rw [Tryz.underlying181] at h
 cases h
 kernel_rfl
theorem pG:(Tryz.prog.info? 181).map (·.size)=some 2:=by kernel_rfl
instance iAG181:AA Tryz.prog 181 2:=⟨by kernel_rfl⟩
instance iUD49:UD Tryz.prog 49 (.slice 9):=⟨Tryz.underlying49⟩
instance iSZ9:SZ Tryz.prog 9 1:=⟨by kernel_rfl⟩
instance iUD120:UD Tryz.prog 120 (.slice 181):=⟨Tryz.underlying120⟩
instance iLT_Param:LenE aq.enc 2:=⟨aq.len⟩
instance iFO181_0:FO Tryz.prog 181 0 0:=⟨by kernel_rfl⟩
instance iSZ181:SZ Tryz.prog 181 2:=⟨by kernel_rfl⟩
theorem HY:fM Tryz.prog 120 181 2 32:=⟨⟨Tryz.t181,.agg #[.string ByteArray.empty,.string ByteArray.empty],Tryz.underlying120,by kernel_rfl,by kernel_rfl,by kernel_rfl,by kernel_rfl,by decide,by kernel_rfl⟩⟩
instance iFO122_1:FO Tryz.prog 122 1 1:=⟨by kernel_rfl⟩
instance iFO122_3:FO Tryz.prog 122 3 5:=⟨by kernel_rfl⟩
instance iFO181_1:FO Tryz.prog 181 1 1:=⟨by kernel_rfl⟩
instance iFO122_2:FO Tryz.prog 122 2 2:=⟨by kernel_rfl⟩
instance iFO80_2:FO Tryz.prog 80 2 17:=⟨by kernel_rfl⟩
theorem Hv:(Tryz.prog.info? 24).bind (·.zero)=some (.agg #[.string ByteArray.empty,.string ByteArray.empty,.int .i64 0,.string ByteArray.empty,.string ByteArray.empty,.int .i64 0,.bool false]):=by kernel_rfl
theorem Jj:(Tryz.prog.info? 22).bind (·.zero)=some (.agg #[.string ByteArray.empty,.string ByteArray.empty]):=by kernel_rfl
theorem Je:∀ fs,Tryz.prog.underlying 24=some (.struct fs)→fs.toList.map (fun f=>(Tryz.prog.info? f.type).map (·.size))=([2,1,1,1,1,1]:List Nat).map some:=by
 intro fs h
 rw [Tryz.underlying24] at h
 cases h
 kernel_rfl
instance iUD34:UD Tryz.prog 34 (.slice 55):=⟨Tryz.underlying34⟩
instance iLiT_Out:LenI ap.ienc 12:=⟨ap.ilen⟩
instance iSZ55:SZ Tryz.prog 55 12:=⟨by kernel_rfl⟩
instance iFO55_0:FO Tryz.prog 55 0 0:=⟨by kernel_rfl⟩
instance iFO51_0:FO Tryz.prog 51 0 0:=⟨by kernel_rfl⟩
instance iUD39:UD Tryz.prog 39 (.int .u64):=⟨Tryz.underlying39⟩
instance iFO51_1:FO Tryz.prog 51 1 1:=⟨by kernel_rfl⟩
instance iAG49:AS Tryz.prog 49:=⟨by kernel_rfl⟩
instance iFO55_1:FO Tryz.prog 55 1 2:=⟨by kernel_rfl⟩
instance iFO55_2:FO Tryz.prog 55 2 3:=⟨by kernel_rfl⟩
instance iFO55_3:FO Tryz.prog 55 3 11:=⟨by kernel_rfl⟩
abbrev T_Gate.c (x:T_Gate) (r:List AV):List AV:=vi x.KC::vs x.Kn::vb x.Kj.Kx::vs x.Kj.Ks::vs x.Kj.Kg :: .fl .shr 3 (flatten (map T_Path.enc x.To))::vb x.KE::fb x.Kd::vs x.Ke::vb x.KD::r
abbrev aH.c (x:aH) (r:List AV):List AV:=vb x.Kj.Kx::vs x.Kj.Ks::vs x.Kj.Kg :: .fl .shr 3 (flatten (map T_Path.enc x.To))::fb x.Kc::vb x.KE::vs x.Kn::vi x.At::r
abbrev T_Config.c (x:T_Config) (r:List AV):List AV:=vs (x.Kh.getD 0 z0)::vs (x.Kh.getD 1 z0)::vi x.Ki::vs x.KI::vs x.KG::vi x.Kt::vb x.Km::r
abbrev bf.c (x:bf) (r:List AV):List AV:=vi x.Kq::vs x.KH::vb x.KB.Kx::vs x.KB.Ks::vs x.KB.Kg :: .fl .shr 2 (flatten (map aq.enc x.KA))::r
theorem cB (c:T_Config) (r:Bool) (h:Sh.cy c=some r):bM Tryz.prog 11 [.agg [.v (.string ((c.Kh.getD 0 (⟨#[]⟩:KK)))),.v (.string ((c.Kh.getD 1 (⟨#[]⟩:KK)))),.v (.int .i64 c.Ki),.v (.string c.KI),.v (.string c.KG),.v (.int .i64 c.Kt),.v (.bool c.Km)]] (.v (.bool r)):=by
 unfold Sh.cy at h
 refine yO 21 func11 fun g0 hn hio => ?_
 refine aG hn 2 [1] ?_
 refine ab ?_
 obtain ⟨v1,hv1,v2,hv2,v3,hv3,h⟩:=rZ h
 refine yx hn 1 ?_
 refine yS (.ptr 1 0) 3 ⟨bt _ _ _ _ 2 1 0 0 1 underlying22 rL rfl rfl (by decide) (by decide)⟩ ?_
 refine yS (.ptr 1 1) 2 ⟨bt _ _ _ _ 2 1 0 1 1 underlying22 rL rfl rfl (by decide) (by decide)⟩ ?_
 refine ys 3 ⟨lb hv1⟩ ?_
 refine ys 3 ⟨lb hv2⟩ ?_
 refine ys 2 ⟨lb hv3⟩ ?_
 refine aV [2] ?_
 refine aj ?_
 obtain rfl:=zi h
 exact al hio rfl (.tmp _ _ .nil) rfl rfl
theorem gg (g:T_Gate) (r:Bool) (h:Sh.dU g=some r):bM Tryz.prog 12 [.agg [.v (.int .i64 g.KC),.v (.string g.Kn),.v (.bool g.Kj.Kx),.v (.string g.Kj.Ks),.v (.string g.Kj.Kg),.fl .shr 3 (flatten (map T_Path.enc g.To)),.v (.bool g.KE),.fl .shr 1 (map (int .u8) g.Kd),.v (.string g.Ke),.v (.bool g.KD)]] (.v (.bool r)):=by
 unfold Sh.dU at h
 refine yO 58 func12 fun g0 hn hio => ?_
 refine aG hn 2 [1] ?_
 refine ab ?_
 obtain ⟨v1,hv1,v2,hv2,v3,hv3,v4,hv4,h⟩:=ld h
 refine yx hn 7 ?_
 refine ys 4 ⟨lb hv1⟩ ?_
 refine ys 3 ⟨lb hv2⟩ ?_
 refine ys 3 ⟨lb hv3⟩ ?_
 refine ys 1 ⟨lb hv4⟩ ?_
 refine aV [1,3] ?_
 refine ab ?_
 refine aG hn 1 [1,3,4] ?_
 refine aU h (fun ((s16,s17):Int×Int)=>[(1,.box 30 (T_Gate.c g [])),(3,vi s16),(4,vi s17)]) (fun (s19:Int)=>[(1,.box 30 (T_Gate.c g [])),(3,vi s19)]) ?_ ?_
 rintro s19 h
 refine af (ab ?_)
 refine ay h (fun (s27:Bool)=>[(2,vb s27)]) ?_ ?_
 rintro s27 h
 refine af (aj ?_)
 obtain rfl:=zi h
 exact al hio rfl (.tmp _ _ .nil) rfl rfl
 intro u28 h hl29 hr30
 refine ak h (fun hg6_2 h => ?_) (fun hg6_2 h => ?_)
 refine yx hn 3 ?_
 refine yd hg6_2 6 ?_
 refine ye [2] ?_
 exact hl29 _ (zi h).symm
 refine yx hn 3 ?_
 refine yd hg6_2 6 ?_
 refine ye [2] ?_
 exact hl29 _ (zi h).symm
 rintro u20 hl21 hr22 ⟨s16,s17⟩ rr25 h ho23
 refine ab ?_
 refine aG hn 5 [1,3,4,30] ?_
 refine zc h rfl (fun h => ?_) (fun h => ?_)
 refine am ?_
 refine af (ab ?_)
 refine aC ?_
 obtain ⟨v6,hv6,v7,hv7,v8,hv8,v9,hv9,h⟩:=ld h
 obtain ⟨v10,hv10,v11,hv11,h⟩:=eo h
 refine wb [[3],[1],[34,1],[4]] ?_
 refine wN [35,36] ?_
 refine wo [[37,35]] ⟨lj hv6⟩ ?_
 refine wN [38,35] ?_
 refine wo [[39]] ⟨lL hv7⟩ ?_
 refine wN [33,40] ?_
 refine wo [[1],[42,1],[4]] ⟨lb hv8⟩ ?_
 refine wN [43,44] ?_
 refine wo [[45,43]] ⟨lj hv9⟩ ?_
 refine wN [46,43] ?_
 refine wo [[47]] ⟨lL hv10⟩ ?_
 refine wN [41,48] ?_
 refine wo [] ⟨lb hv11⟩ ?_
 refine wK [3] [49] ?_
 refine wt [(3,vi v11)] [] ⟨aJ.drop [_] (iq _ _ _ _ rfl rfl)⟩ ?_
 refine we hn [1,4,3] ?_
 refine aI (af ?_)
 obtain ⟨v12,hv12,h⟩:=zn h
 refine yx hn 1 ?_
 refine ys 0 ⟨lb hv12⟩ ?_
 refine yw [4] 1 ?_
 refine ye [1,3,4] ?_
 exact bc _ (zi h).symm rfl
 refine bh (ar (ar (bb ?_)))
 refine ag [0,1] (by kernel_rfl) (es':=[(_,_),(_,_)]) rfl ?_
 exact hl21 _ (ho23 _ (zi h).symm).symm
theorem nS (s:KK) (sep:KK) (sepSave:Int) (r:(KK×KK×Int)) (h:Sh.jh s sep sepSave=some r):bM Tryz.prog 93 [.v (.string s),.v (.string sep),.v (.int .i64 sepSave)] (.cloB 119 [.box 9 [.v (.string r.1)],.box 9 [.v (.string r.2.1)],.box 3 [.v (.int .i64 r.2.2)]]):=by
 unfold Sh.jh at h
 refine yO 8 func93 fun g0 hn hio => ?_
 refine aG hn 4 [3,4,5] ?_
 refine gE hn 0 ?_
 refine yk [4,3,5] [] ?_
 refine yt (7,.cloB 119 [.box 9 [vs sep],.box 9 [vs s],.box 3 [vi sepSave]]) 0 ⟨vU _ _ [4,3,5] [.box 9 [vs sep],.box 9 [vs s],.box 3 [vi sepSave]] rfl rfl rfl⟩ ?_
 refine ya 0 ?_
 refine aV [6] ?_
 refine aj ?_
 obtain rfl:=zi h
 exact al hio rfl (.tmp _ _ .nil) rfl rfl
theorem gw (s:KK) (sep:KK) (r:(KK×KK×Int)) (h:Sh.dA s sep=some r):bM Tryz.prog 80 [.v (.string s),.v (.string sep)] (.cloB 119 [.box 9 [.v (.string r.1)],.box 9 [.v (.string r.2.1)],.box 3 [.v (.int .i64 r.2.2)]]):=by
 unfold Sh.dA at h
 refine yO 8 func80 fun g0 hn hio => ?_
 refine aG hn 1 [0,1] ?_
 refine ab ?_
 obtain ⟨v1,hv1,h⟩:=zn h
 refine yx hn 2 ?_
 refine yk [] [5,6] ?_
 refine yt (7,.cloB 119 [.box 9 [vs v1.1],.box 9 [vs v1.2.1],.box 3 [vi v1.2.2]]) 0 ⟨gJ _ _ 93 _ _ rfl call93 rfl rfl (nS s sep 0 _ hv1) rfl⟩ ?_
 refine ya 0 ?_
 refine aV [4] ?_
 refine aj ?_
 obtain rfl:=zi h
 exact al hio rfl (.tmp _ _ .nil) rfl rfl
theorem fS (mx:Int×Nat×Value) (s:KK) (r:(Int×Int)) (h:Sh.cl s=some r):ir Tryz.prog (GL mx) 142 [.v (.string s)] (.tup [.v (.int .i32 r.1),.v (.int .i64 r.2)]):=by
 unfold Sh.cl at h
 refine yG 117 func142 fun g0 hn hio => ?_
 refine aG hn 2 [0,117] ?_
 refine aG hn 3 [0,117,4] ?_
 refine ab ?_
 refine aG hn 2 [0,117,4,16] ?_
 refine zc h rfl (fun h => ?_) (fun h => ?_)
 refine aG hn 2 [117,2,3] ?_
 refine aj ?_
 refine ag [1,2] (by kernel_rfl) (es':=[(_,_),(_,_)]) rfl ?_
 refine ai ?_
 obtain rfl:=zi h
 exact al hio rfl (.tmp _ _ (.tmp _ _ .nil)) rfl rfl
 refine am ?_
 refine af (ab ?_)
 obtain ⟨v2,hv2,h⟩:=zn h
 refine yx hn 1 ?_
 refine ys 1 ⟨lh hv2⟩ ?_
 refine aV [0,117,4,5] ?_
 refine ab ?_
 obtain ⟨v3,hv3,v4,hv4,h⟩:=eo h
 refine yx hn 1 ?_
 refine yS (.v (.pointer (some ⟨1,(0+v3 * 1),none⟩))) 0 ⟨mF _ _ _ _ 256 1 0 _ 1 _ underlying184 lQ rfl rfl (bo hv3).1 (bo hv3).2⟩ ?_
 refine yS (.v (.int .u8 v4)) 1 ⟨lZ _ _ 117 1 _ _ _ underlying5 rfl rfl rfl (yW mx) (di hv4)⟩ ?_
 refine aV [0,117,4,5,6] ?_
 refine ab ?_
 refine aG hn 2 [0,117,4,5,6,23] ?_
 refine zc h rfl (fun h => ?_) (fun h => ?_)
 refine ab ?_
 obtain ⟨v6,hv6,v7,hv7,v8,hv8,h⟩:=rZ h
 refine yx hn 1 ?_
 refine ys 0 ⟨lv hv6⟩ ?_
 refine ys 0 ⟨lB (qd hv7)⟩ ?_
 refine ys 1 ⟨lB (lW hv8)⟩ ?_
 refine aV [0,117,7] ?_
 refine ab ?_
 obtain ⟨v9,hv9,v10,hv10,v11,hv11,v12,hv12,h⟩:=ld h
 obtain ⟨v13,hv13,h⟩:=zn h
 refine yx hn 1 ?_
 refine ys 0 ⟨lh hv9⟩ ?_
 refine ys 1 ⟨lv hv10⟩ ?_
 refine ys 1 ⟨lb hv11⟩ ?_
 refine ys 0 ⟨lb hv12⟩ ?_
 refine ys 2 ⟨lb hv13⟩ ?_
 refine aV [117,2,3] ?_
 refine aj ?_
 refine ag [1,2] (by kernel_rfl) (es':=[(_,_),(_,_)]) rfl ?_
 refine ai ?_
 obtain rfl:=zi h
 exact al hio rfl (.tmp _ _ (.tmp _ _ .nil)) rfl rfl
 cases h
theorem gR (mx:Int×Nat×Value) (s:KK) (r:(Int×Int)) (h:Sh.cN s=some r):ir Tryz.prog (GL mx) 120 [.v (.string s)] (.tup [.v (.int .i32 r.1),.v (.int .i64 r.2)]):=by
 unfold Sh.cN at h
 refine yG 19 func120 fun g0 hn hio => ?_
 refine aG hn 2 [0,19] ?_
 refine ab (ab ?_)
 refine ay h (fun (s2:Bool)=>[(0,vs s),(19,.glob (GL mx)),(10,vb s2)]) ?_ ?_
 rintro s2 h
 refine af ?_
 refine zc h rfl (fun h => ?_) (fun h => ?_)
 refine ab ?_
 obtain ⟨v7,hv7,v8,hv8,h⟩:=eo h
 refine yx hn 1 ?_
 refine ys 0 ⟨lh hv7⟩ ?_
 refine ys 2 ⟨lv hv8⟩ ?_
 refine aV [19,2,3] ?_
 refine aj ?_
 refine ag [1,2] (by kernel_rfl) (es':=[(_,_),(_,_)]) rfl ?_
 refine ai ?_
 obtain rfl:=zi h
 exact al hio rfl (.tmp _ _ (.tmp _ _ .nil)) rfl rfl
 obtain ⟨v9,hv9,h⟩:=zn h
 refine yx hn 1 ?_
 refine ys 0 ⟨lg call142 (fS _ _ _ hv9) 19⟩ ?_
 refine ym 4 ?_
 refine aV [19,2,3] ?_
 refine aj ?_
 refine ag [1,2] (by kernel_rfl) (es':=[(_,_),(_,_)]) rfl ?_
 obtain rfl:=zi h
 exact al hio rfl (.tmp _ _ (.tmp _ _ .nil)) rfl rfl
 intro u3 h hl4 hr5
 refine ak h (fun hg1_2 h => ?_) (fun hg1_2 h => ?_)
 obtain ⟨v1,hv1,h⟩:=zn h
 refine yx hn 3 ?_
 refine yd hg1_2 1 ?_
 refine ys 2 ⟨lh hv1⟩ ?_
 refine ye [0,19,10] ?_
 exact hl4 _ (zi h).symm
 refine yx hn 3 ?_
 refine yd hg1_2 4 ?_
 refine ye [0,19,10] ?_
 exact hl4 _ (zi h).symm
theorem lG (s sub:KK) (r:Int) (h:Sh.ck s sub=some r):bM Tryz.prog 121 [.v (.string s),.v (.string sub)] (.v (.int .i64 r)):=kL Tryz.strings_Index_one s sub r h
theorem fp (mx:Int×Nat×Value) (l:Nat) {S:Type} (J:S→kU) (Y:KK→S→Option (S×Bool)) (hY:pm Tryz.prog l (fun x => .v (.string x)) Y J) (c0:KK) (c1:KK) (c2:Int) (st r:S) (h:Sh.bu Y c0 c1 c2 st=some r):GC Tryz.prog (GL mx) 119 l [.box 9 [.v (.string c0)],.box 9 [.v (.string c1)],.box 3 [.v (.int .i64 c2)]] (J st) (J r):=by
 unfold Sh.bu at h
 refine yI 52 func119 fun g0 hn hio => ?_
 refine ab ?_
 refine aG hn 3 [0,1,2,3,52,53,11] ?_
 refine zc h rfl (fun h => ?_) (fun h => ?_)
 refine ab ?_
 refine jo [0,2,4,5] (by kernel_rfl) (es':=[(_,_),(_,_),(_,_),(_,_)]) rfl ?_
 refine aU h (fun ((s12,s13):KK×S)=>[(0,.v (.func (.yield l) #[] #[])),(2,.box 9 [vs s12]),(52,.glob (GL mx)),(53,.inv (J s13))]) (fun (s16:S)=>[(52,.glob (GL mx)),(53,.inv (J s16))]) ?_ ?_
 rintro s16 h
 refine af (aj ?_)
 refine ag [1] (by kernel_rfl) (es':=[(53,.inv (J s16))]) rfl ?_
 refine ai ?_
 obtain rfl:=zi h
 exact qS hio rfl rfl rfl
 rintro u17 hl18 hr19 ⟨s12,s13⟩ rr22 h ho20
 refine ab ?_
 refine aG hn 3 [0,2,52,53,14] ?_
 refine zc h rfl (fun h => ?_) (fun h => ?_)
 refine am (af (aC (ab ?_)))
 obtain ⟨v3,hv3,h⟩:=zn h
 refine yx hn 1 ?_
 refine ys 0 ⟨lg call120 (gR _ _ _ hv3) 52⟩ ?_
 refine ym 4 ?_
 refine aV [0,2,52,53,6] ?_
 refine ab (ab ?_)
 obtain ⟨v4,hv4,v5,hv5,h⟩:=eo h
 refine yx hn 3 ?_
 refine yS (vs v4) 0 ⟨cW _ _ _ 0 v3.2 _ underlying9 rfl rfl ⟨_,rfl⟩ hv4⟩ ?_
 refine yk [53] [23,20] ?_
 refine nE (53,.inv (J v5.1)) (24,vb v5.2) 1 ⟨pd _ _ 53 l v4 s13 v5 hY hv5 rfl rfl rfl⟩ ?_
 refine aV [0,2,52,53,6,25] ?_
 refine zc h rfl (fun h => ?_) (fun h => ?_)
 refine aj ?_
 refine ag [3] (by kernel_rfl) (es':=[(53,.inv (J v5.1))]) rfl ?_
 refine ai (aE (ai (aE (ai (ai ?_)))))
 have h:=hr19 _ (ho20 _ (zi h).symm).symm
 obtain rfl:=zi h
 exact qS hio rfl rfl rfl
 refine am (af ?_)
 obtain ⟨v7,hv7,h⟩:=zn h
 refine yx hn 2 ?_
 refine yS (vs v7) 1 ⟨cW _ _ _ v3.2 (s12.size:Int) _ underlying9 rfl ⟨_,rfl⟩ rfl hv7⟩ ?_
 refine ye [0,2,52,53] ?_
 refine aI ?_
 exact bc _ (zi h).symm rfl
 refine bh (ar (ar (bb ?_)))
 refine ag [2,3] (by kernel_rfl) (es':=[(_,_),(_,_)]) rfl ?_
 exact hl18 _ (ho20 _ (zi h).symm).symm
 refine am ?_
 refine af (ab ?_)
 refine jo [0,1,2,3,4,5] (by kernel_rfl) (es':=[(_,_),(_,_),(_,_),(_,_),(_,_),(_,_)]) rfl ?_
 refine aU h (fun ((s37,s38):KK×S)=>[(0,.v (.func (.yield l) #[] #[])),(1,.box 9 [vs c0]),(2,.box 9 [vs s37]),(3,.box 3 [vi c2]),(52,.glob (GL mx)),(53,.inv (J s38))]) (fun ((s41,s42):KK×S)=>[(0,.v (.func (.yield l) #[] #[])),(2,.box 9 [vs s41]),(52,.glob (GL mx)),(53,.inv (J s42))]) ?_ ?_
 rintro ⟨s41,s42⟩ h
 refine af ?_
 obtain ⟨v51,hv51,h⟩:=zn h
 refine yx hn 2 ?_
 refine yk [53] [50,49] ?_
 refine nE (53,.inv (J v51.1)) (51,vb v51.2) 0 ⟨pd _ _ 53 l s41 s42 v51 hY hv51 rfl rfl rfl⟩ ?_
 refine ye [52,53] ?_
 refine ag [1] (by kernel_rfl) (es':=[(53,.inv (J v51.1))]) rfl ?_
 obtain rfl:=zi h
 exact Ea hio rfl rfl rfl
 rintro u43 hl44 hr45 ⟨s37,s38⟩ rr48 h ho46
 refine aC (ab ?_)
 obtain ⟨v25,hv25,h⟩:=zn h
 refine yx hn 2 ?_
 refine ys 1 ⟨lk call121 (lG _ _ _ hv25)⟩ ?_
 refine aV [0,1,2,3,52,53,7] ?_
 refine ab ?_
 refine aG hn 2 [0,1,2,3,52,53,7,33] ?_
 refine zc h rfl (fun h => ?_) (fun h => ?_)
 refine bh (ar ?_)
 refine wq (by decide) ?_
 refine ar (bb ?_)
 refine ag [0,2,4,5] (by kernel_rfl) (es':=[(_,_),(_,_),(_,_),(_,_)]) rfl ?_
 exact hl44 _ (ho46 _ (zi h).symm).symm
 refine am ?_
 refine af (ab ?_)
 obtain ⟨v27,hv27,v28,hv28,h⟩:=eo h
 refine yx hn 3 ?_
 refine ys 0 ⟨lb hv27⟩ ?_
 refine yS (vs v28) 1 ⟨cW _ _ _ 0 v27 _ underlying9 rfl rfl ⟨_,rfl⟩ hv28⟩ ?_
 refine aV [0,1,2,3,52,53,7,8] ?_
 refine ab (ab ?_)
 obtain ⟨v29,hv29,h⟩:=zn h
 refine yx hn 2 ?_
 refine yk [53] [40,39] ?_
 refine nE (53,.inv (J v29.1)) (41,vb v29.2) 1 ⟨pd _ _ 53 l v28 s38 v29 hY hv29 rfl rfl rfl⟩ ?_
 refine aV [0,1,2,3,52,53,7,42] ?_
 refine zc h rfl (fun h => ?_) (fun h => ?_)
 refine aj ?_
 refine ag [5] (by kernel_rfl) (es':=[(53,.inv (J v29.1))]) rfl ?_
 refine ai (aE (ai (aE (ai ?_))))
 have h:=hr45 _ (ho46 _ (zi h).symm).symm
 obtain rfl:=zi h
 exact qS hio rfl rfl rfl
 refine am (af ?_)
 obtain ⟨v31,hv31,v32,hv32,h⟩:=eo h
 refine yx hn 4 ?_
 refine ys 0 ⟨lb hv31⟩ ?_
 refine yS (vs v32) 1 ⟨cW _ _ _ v31 (s37.size:Int) _ underlying9 rfl ⟨_,rfl⟩ rfl hv32⟩ ?_
 refine ye [0,1,2,3,52,53] ?_
 refine aI ?_
 exact bc _ (zi h).symm rfl
theorem dM (c:Int) (r:Bool) (h:Sh.fx c=some r):bM Tryz.prog 83 [.v (.int .u8 c)] (.v (.bool r)):=by
 unfold Sh.fx at h
 refine yO 25 func83 fun g0 hn hio => ?_
 refine aG hn 1 [0] ?_
 refine ab ?_
 refine ay h (fun (s1:Bool)=>[(2,vb s1)]) ?_ ?_
 rintro s1 h
 refine af (aj ?_)
 obtain rfl:=zi h
 exact al hio rfl (.tmp _ _ .nil) rfl rfl
 intro u2 h hl3 hr4
 refine ak h (fun hg1_2 h => ?_) (fun hg1_2 h => ?_)
 refine ak h (fun hg1_6 h => ?_) (fun hg1_6 h => ?_)
 refine yx hn 3 ?_
 refine yd hg1_2 4 ?_
 refine yd hg1_6 16 ?_
 refine ye [2] ?_
 exact hl3 _ (zi h).symm
 refine ak h (fun hg1_9 h => ?_) (fun hg1_9 h => ?_)
 refine ak h (fun hg1_14 h => ?_) (fun hg1_14 h => ?_)
 refine yx hn 3 ?_
 refine yd hg1_2 4 ?_
 refine yd hg1_6 3 ?_
 refine yd hg1_9 5 ?_
 refine yd hg1_14 8 ?_
 refine ye [2] ?_
 exact hl3 _ (zi h).symm
 refine ak h (fun hg1_17 h => ?_) (fun hg1_17 h => ?_)
 refine yx hn 3 ?_
 refine yd hg1_2 4 ?_
 refine yd hg1_6 3 ?_
 refine yd hg1_9 5 ?_
 refine yd hg1_14 3 ?_
 refine yd hg1_17 5 ?_
 refine ye [2] ?_
 exact hl3 _ (zi h).symm
 refine yx hn 3 ?_
 refine yd hg1_2 4 ?_
 refine yd hg1_6 3 ?_
 refine yd hg1_9 5 ?_
 refine yd hg1_14 3 ?_
 refine yd hg1_17 5 ?_
 refine ye [2] ?_
 exact hl3 _ (zi h).symm
 refine ak h (fun hg1_17 h => ?_) (fun hg1_17 h => ?_)
 refine yx hn 3 ?_
 refine yd hg1_2 4 ?_
 refine yd hg1_6 3 ?_
 refine yd hg1_9 8 ?_
 refine yd hg1_17 5 ?_
 refine ye [2] ?_
 exact hl3 _ (zi h).symm
 refine yx hn 3 ?_
 refine yd hg1_2 4 ?_
 refine yd hg1_6 3 ?_
 refine yd hg1_9 8 ?_
 refine yd hg1_17 5 ?_
 refine ye [2] ?_
 exact hl3 _ (zi h).symm
 refine ak h (fun hg1_9 h => ?_) (fun hg1_9 h => ?_)
 refine ak h (fun hg1_14 h => ?_) (fun hg1_14 h => ?_)
 refine yx hn 3 ?_
 refine yd hg1_2 7 ?_
 refine yd hg1_9 5 ?_
 refine yd hg1_14 8 ?_
 refine ye [2] ?_
 exact hl3 _ (zi h).symm
 refine ak h (fun hg1_17 h => ?_) (fun hg1_17 h => ?_)
 refine yx hn 3 ?_
 refine yd hg1_2 7 ?_
 refine yd hg1_9 5 ?_
 refine yd hg1_14 3 ?_
 refine yd hg1_17 5 ?_
 refine ye [2] ?_
 exact hl3 _ (zi h).symm
 refine yx hn 3 ?_
 refine yd hg1_2 7 ?_
 refine yd hg1_9 5 ?_
 refine yd hg1_14 3 ?_
 refine yd hg1_17 5 ?_
 refine ye [2] ?_
 exact hl3 _ (zi h).symm
 refine ak h (fun hg1_17 h => ?_) (fun hg1_17 h => ?_)
 refine yx hn 3 ?_
 refine yd hg1_2 7 ?_
 refine yd hg1_9 8 ?_
 refine yd hg1_17 5 ?_
 refine ye [2] ?_
 exact hl3 _ (zi h).symm
 refine yx hn 3 ?_
 refine yd hg1_2 7 ?_
 refine yd hg1_9 8 ?_
 refine yd hg1_17 5 ?_
 refine ye [2] ?_
 exact hl3 _ (zi h).symm
theorem qN (c:Int) (r:Bool) (h:Sh.gj c=some r):bM Tryz.prog 82 [.v (.int .u8 c)] (.v (.bool r)):=by
 unfold Sh.gj at h
 refine yO 9 func82 fun g0 hn hio => ?_
 refine aG hn 1 [0] ?_
 refine ab ?_
 refine ay h (fun (s2:Bool)=>[(2,vb s2)]) ?_ ?_
 rintro s2 h
 refine af (aj ?_)
 obtain rfl:=zi h
 exact al hio rfl (.tmp _ _ .nil) rfl rfl
 intro u3 h hl4 hr5
 obtain ⟨v1,hv1,h⟩:=zn h
 refine ak h (fun hg1_2 h => ?_) (fun hg1_2 h => ?_)
 refine yx hn 1 ?_
 refine ys 1 ⟨lk call83 (dM _ _ hv1)⟩ ?_
 refine yd hg1_2 4 ?_
 refine ye [2] ?_
 exact hl4 _ (zi h).symm
 refine yx hn 1 ?_
 refine ys 1 ⟨lk call83 (dM _ _ hv1)⟩ ?_
 refine yd hg1_2 4 ?_
 refine ye [2] ?_
 exact hl4 _ (zi h).symm
theorem jL (s:KK) (r:Bool) (h:Sh.ek s=some r):bM Tryz.prog 81 [.v (.string s),.v (.func (.func 82) #[] #[])] (.v (.bool r)):=by
 unfold Sh.ek at h
 refine yO 18 func81 fun g0 hn hio => ?_
 refine aG hn 1 [0,1] ?_
 refine ab ?_
 refine aG hn 3 [0,1,7,8] ?_
 refine aU h (fun (s9:Int)=>[(0,vs s),(1,.v (.func (.func 82) #[] #[])),(7,vi (s.size:Int)),(8,vi s9)]) (fun (():Unit)=>[]) ?_ ?_
 rintro ⟨⟩ h
 refine af ?_
 refine aG hn 1 [4] ?_
 refine aj ?_
 obtain rfl:=zi h
 exact al hio rfl (.tmp _ _ .nil) rfl rfl
 rintro u12 hl13 hr14 s9 rr17 h ho15
 refine aG hn 1 [0,1,7,8,9] ?_
 refine ab ?_
 refine zc h rfl (fun h => ?_) (fun h => ?_)
 refine am ?_
 refine af (ab ?_)
 refine aC ?_
 refine aG hn 2 [0,1,7,8,5] ?_
 refine ab ?_
 obtain ⟨v2,hv2,v3,hv3,h⟩:=eo h
 refine yx hn 3 ?_
 refine ys 0 ⟨lh hv2⟩ ?_
 refine ys 1 ⟨lk call82 (qN _ _ hv3)⟩ ?_
 refine aV [0,1,7,8,16] ?_
 refine zc h rfl (fun h => ?_) (fun h => ?_)
 refine aG hn 1 [4] ?_
 refine aj (aE (ai (ai (aE (ai ?_)))))
 have h:=hr14 _ (ho15 _ (zi h).symm).symm
 obtain rfl:=zi h
 exact al hio rfl (.tmp _ _ .nil) rfl rfl
 refine am (aI (af ?_))
 obtain ⟨v5,hv5,h⟩:=zn h
 refine yx hn 0 ?_
 refine ys 0 ⟨lb hv5⟩ ?_
 refine yw [8] 1 ?_
 refine ye [0,1,7,8] ?_
 exact bc _ (zi h).symm rfl
 refine bh (ar (ar (bb ?_)))
 refine ag [] (by kernel_rfl) (es':=[]) rfl ?_
 exact hl13 _ (ho15 _ (zi h).symm).symm
theorem sO (s:KK) (r:Bool) (h:Sh.jX s=some r):bM Tryz.prog 70 [.v (.string s)] (.v (.bool r)):=by
 unfold Sh.jX at h
 refine yO 27 func70 fun g0 hn hio => ?_
 refine aG hn 1 [0] ?_
 refine ab ?_
 refine ay h (fun (s5:Bool)=>[(2,vb s5)]) ?_ ?_
 rintro s5 h
 refine af (aj ?_)
 obtain rfl:=zi h
 exact al hio rfl (.tmp _ _ .nil) rfl rfl
 intro u6 h hl7 hr8
 refine ak h (fun hg1_2 h => ?_) (fun hg1_2 h => ?_)
 refine ak h (fun hg1_7 h => ?_) (fun hg1_7 h => ?_)
 obtain ⟨v1,hv1,h⟩:=zn h
 refine ak h (fun hg1_12 h => ?_) (fun hg1_12 h => ?_)
 obtain ⟨v2,hv2,v3,hv3,h⟩:=eo h
 refine ak h (fun hg1_20 h => ?_) (fun hg1_20 h => ?_)
 obtain ⟨v4,hv4,h⟩:=zn h
 refine yx hn 3 ?_
 refine yd hg1_2 5 ?_
 refine yd hg1_7 1 ?_
 refine ys 3 ⟨lh hv1⟩ ?_
 refine yd hg1_12 3 ?_
 refine ys 0 ⟨lb hv2⟩ ?_
 refine ys 3 ⟨lh hv3⟩ ?_
 refine yd hg1_20 1 ?_
 refine ys 2 ⟨lk call81 (jL _ _ hv4)⟩ ?_
 refine ye [2] ?_
 exact hl7 _ (zi h).symm
 refine yx hn 3 ?_
 refine yd hg1_2 5 ?_
 refine yd hg1_7 1 ?_
 refine ys 3 ⟨lh hv1⟩ ?_
 refine yd hg1_12 3 ?_
 refine ys 0 ⟨lb hv2⟩ ?_
 refine ys 3 ⟨lh hv3⟩ ?_
 refine yd hg1_20 4 ?_
 refine ye [2] ?_
 exact hl7 _ (zi h).symm
 refine yx hn 3 ?_
 refine yd hg1_2 5 ?_
 refine yd hg1_7 1 ?_
 refine ys 3 ⟨lh hv1⟩ ?_
 refine yd hg1_12 12 ?_
 refine ye [2] ?_
 exact hl7 _ (zi h).symm
 refine yx hn 3 ?_
 refine yd hg1_2 5 ?_
 refine yd hg1_7 17 ?_
 refine ye [2] ?_
 exact hl7 _ (zi h).symm
 refine yx hn 3 ?_
 refine yd hg1_2 22 ?_
 refine ye [2] ?_
 exact hl7 _ (zi h).symm
theorem jD (mx:Int×Nat×Value) (s:KK) (r:Bool) (h:Sh.dG s=some r):ir Tryz.prog (GL mx) 69 [.v (.string s),.v (.func (.func 70) #[] #[])] (.v (.bool r)):=by
 unfold Sh.dG at h
 refine yG 13 func69 fun g0 hn hio => ?_
 refine gE hn 1 ?_
 refine yS (.box 4 [vb false]) 0 ⟨oA (aR _ _ Io)⟩ ?_
 refine aV [0,13,3,4] ?_
 refine ab (ab ?_)
 obtain ⟨v1,hv1,h⟩:=zn h
 refine yx hn 1 ?_
 refine yk [] [6] ?_
 refine yt (7,.cloB 119 [.box 9 [vs v1.1],.box 9 [vs v1.2.1],.box 3 [vi v1.2.2]]) 0 ⟨gJ _ _ 80 _ _ rfl call80 rfl rfl (gw s (⟨#[46]⟩:KK) _ hv1) rfl⟩ ?_
 refine aV [13,3,4,7] ?_
 refine aC ?_
 refine jo [3,0,1,2] (by kernel_rfl) (es':=[(7,.cloB 119 [.box 9 [vs v1.1],.box 9 [vs v1.2.1],.box 3 [vi v1.2.2]]),(13,.glob (GL mx)),(3,.box 65 [.v (.func (.func 70) #[] #[])]),(4,.box 4 [vb false])]) rfl ?_
 refine ia h 119 7 8 14 _ [13,3,4] call119 (fun (():Unit)=>[(13,.glob (GL mx)),(3,.box 65 [.v (.func (.func 70) #[] #[])]),(4,.box 4 [.v (.bool false)])]) (fun (():Unit)=>[(13,.glob (GL mx)),(3,.box 65 [.v (.func (.func 70) #[] #[])]),(4,.box 4 [.v (.bool false)])]) (fun l J Y hY t t' h=>fp mx l J Y hY v1.1 v1.2.1 v1.2.2 t t' h) hn rfl (fun _=>rfl) (fun _=>rfl) (fun _=>rfl) rfl rfl (fun _=>⟨rfl,rfl⟩) rfl (gY 13 rfl) ?_ ?_ ?_
 rintro kk g0 hn hio x ⟨⟩ u h
 refine qo (es':=[(8,vs x),(13,.glob (GL mx)),(3,.box 65 [.v (.func (.func 70) #[] #[])]),(4,.box 4 [vb false]),(13,.v (kk.tm.getD 13 undef)),(3,.v (kk.tm.getD 3 undef)),(4,.v (kk.tm.getD 4 undef)),(14,.inv kk.ready)]) rfl ?_
 refine yy hn 1 [13,3,4,14,5,13,3,4] ?_
 refine ag [0,1,2,4,5,6,7,3] (by kernel_rfl) (es':=[(13,.glob (GL mx)),(3,.box 65 [.v (.func (.func 70) #[] #[])]),(4,.box 4 [vb false]),(5,vs x),(13,.v (kk.tm.getD 13 undef)),(3,.v (kk.tm.getD 3 undef)),(4,.v (kk.tm.getD 4 undef)),(14,.inv kk.ready)]) rfl ?_
 refine jt (es:=[(13,.glob (GL mx)),(3,.box 65 [.v (.func (.func 70) #[] #[])]),(4,.box 4 [vb false]),(5,vs x),(13,.v (kk.tm.getD 13 undef)),(3,.v (kk.tm.getD 3 undef)),(4,.v (kk.tm.getD 4 undef))]) 14 rfl ?_
 refine aC (ab ?_)
 obtain ⟨v2,hv2,h⟩:=zn h
 refine yx hn 2 ?_
 refine ys 1 ⟨lk call70 (sO _ _ hv2)⟩ ?_
 refine aV [13,3,4,14,12,13,3,4] ?_
 refine zc h rfl (fun h => ?_) (fun h => ?_)
 refine aG hn 1 [13,3,4,14,13,3,4] ?_
 refine aj (aE ?_)
 refine ag [0,1,2,4,5,6,3] (by kernel_rfl) (es':=[(_,_),(_,_),(_,_),(_,_),(_,_),(_,_),(_,_)]) rfl ?_
 obtain rfl:=zi h
 exact pq 14 [13,3,4] _ rfl rfl (by kernel_rfl)
 refine am (aI ?_)
 refine ag [0,1,2,5,6,7,3] (by kernel_rfl) (es':=[(_,_),(_,_),(_,_),(_,_),(_,_),(_,_),(_,_)]) rfl ?_
 obtain rfl:=zi h
 exact jB 14 [13,3,4] _ rfl rfl (by kernel_rfl)
 rintro D ⟨⟩ h
 refine aI (af ?_)
 refine aG hn 1 [13,4] ?_
 refine aj ?_
 refine ag [1] (by kernel_rfl) (es':=[(_,_)]) rfl ?_
 obtain rfl:=zi h
 exact al hio rfl (.cell1 _ _ _ _ underlying4 rfl .nil) rfl rfl
 rintro D ⟨⟩ h
 refine ag [2] (by kernel_rfl) (es':=[(_,_)]) rfl ?_
 refine aE (ai ?_)
 obtain rfl:=zi h
 exact al hio rfl (.cell1 _ _ _ _ underlying4 rfl .nil) rfl rfl
theorem bN (mx:Int×Nat×Value) (s:KK) (r:Bool) (h:Sh.cx s=some r):ir Tryz.prog (GL mx) 55 [.v (.string s)] (.v (.bool r)):=by
 unfold Sh.cx at h
 refine yG 10 func55 fun g0 hn hio => ?_
 refine aG hn 1 [0,10] ?_
 refine ab ?_
 refine ay h (fun (s2:Bool)=>[(10,.glob (GL mx)),(2,vb s2)]) ?_ ?_
 rintro s2 h
 refine af (aj ?_)
 refine ag [1] (by kernel_rfl) (es':=[(_,_)]) rfl ?_
 obtain rfl:=zi h
 exact al hio rfl (.tmp _ _ .nil) rfl rfl
 intro u3 h hl4 hr5
 refine ak h (fun hg1_3 h => ?_) (fun hg1_3 h => ?_)
 obtain ⟨v1,hv1,h⟩:=zn h
 refine yx hn 4 ?_
 refine yd hg1_3 1 ?_
 refine ys 2 ⟨lg call69 (jD _ _ _ hv1) 10⟩ ?_
 refine ye [10,2] ?_
 exact hl4 _ (zi h).symm
 refine yx hn 4 ?_
 refine yd hg1_3 4 ?_
 refine ye [10,2] ?_
 exact hl4 _ (zi h).symm
theorem dX (s:KK) (r:KK) (h:Sh.dC s=some r):bM Tryz.prog 71 [.v (.string s)] (.v (.string r)):=by
 unfold Sh.dC at h
 refine yO 29 func71 fun g0 hn hio => ?_
 refine aG hn 1 [0] ?_
 refine ab ?_
 obtain ⟨v1,hv1,h⟩:=zn h
 refine yx hn 1 ?_
 refine ys 0 ⟨lU hv1⟩ ?_
 refine ya 0 ?_
 refine aV [3] ?_
 refine ab ?_
 refine gE hn 1 ?_
 refine yS (vi (v1.length:Int)) 1 ⟨nF _ _ _ underlying28 rfl (List.length_map _)⟩ ?_
 refine aV [3,8,9,10] ?_
 refine aU h (fun ((s40,s41):(List Int)×Int)=>[(3,.mkr 5 (map (int .u8) s40)),(8,.same (.slot 3)),(9,vi (v1.length:Int)),(10,vi s41)]) (fun (s57:(List Int))=>[(3,.mkr 5 (map (int .u8) s57))]) ?_ ?_
 rintro s57 h
 refine af (ab ?_)
 obtain ⟨v79,hv79,h⟩:=zn h
 refine yx hn 0 ?_
 refine ym 0 ?_
 refine ys 1 ⟨lM hv79⟩ ?_
 refine aV [2] ?_
 refine aj ?_
 obtain rfl:=zi h
 exact al hio rfl (.tmp _ _ .nil) rfl rfl
 rintro u58 hl59 hr60 ⟨s40,s41⟩ rr63 h ho61
 refine aG hn 1 [3,8,9,10,11] ?_
 refine ab ?_
 refine zc h rfl (fun h => ?_) (fun h => ?_)
 refine am ?_
 refine af (ab ?_)
 refine ay h (fun (s70:(List Int))=>[(3,.mkr 5 (map (int .u8) s70)),(8,.same (.slot 3)),(9,vi (v1.length:Int)),(10,vi s41)]) ?_ ?_
 rintro s70 h
 refine af ?_
 obtain ⟨v22,hv22,h⟩:=zn h
 refine yx hn 0 ?_
 refine ys 0 ⟨lb hv22⟩ ?_
 refine yw [10] 1 ?_
 refine ye [3,8,9,10] ?_
 exact bc _ (zi h).symm rfl
 intro u71 h hl72 hr73
 refine aC (ab ?_)
 obtain ⟨v3,hv3,v4,hv4,h⟩:=eo h
 refine yx hn 1 ?_
 refine yS (.eref (.slot 3) (v3 * 1)) 0 ⟨wy _ _ _ _ _ _ _ underlying28 lQ rfl rfl rfl (bo hv3).1 (Bi (bo hv3).2) rfl⟩ ?_
 refine yS (.v (.int .u8 v4)) 2 ⟨xA _ _ _ _ _ _ underlying5 rfl rfl rfl (zo hv4)⟩ ?_
 refine aV [3,8,9,10,4,5] ?_
 refine ab ?_
 refine ay h (fun (s74:Bool)=>[(3,.mkr 5 (map (int .u8) s40)),(8,.same (.slot 3)),(9,vi (v1.length:Int)),(10,vi s41),(4,vi s41),(5,.v (.int .u8 v4)),(20,vb s74)]) ?_ ?_
 rintro s74 h
 refine af ?_
 refine zc h rfl (fun h => ?_) (fun h => ?_)
 obtain ⟨v10,hv10,v11,hv11,v12,hv12,h⟩:=rZ h
 refine yx hn 3 ?_
 refine ys 0 ⟨lb hv10⟩ ?_
 refine yS (.eref (.slot 3) (v11 * 1)) 0 ⟨wy _ _ _ _ _ _ _ underlying28 lQ rfl rfl rfl (bo hv11).1 (Bi (bo hv11).2) rfl⟩ ?_
 refine yk [3] [25,24] ?_
 refine yt (3,.mkr 5 (map (int .u8) v12)) 0 ⟨vu _ _ _ _ _ _ _ lQ rfl rfl rfl (HI (bo hv11).2) (Fg (f:=int .u8) (Option.some.inj hv12))⟩ ?_
 refine ye [3,8,9,10] ?_
 refine aI ?_
 exact hl72 _ (zi h).symm
 refine am (aI ?_)
 refine ag [0,1,2,3] (by kernel_rfl) (es':=[(_,_),(_,_),(_,_),(_,_)]) rfl ?_
 exact hl72 _ (zi h).symm
 intro u75 h hl76 hr77
 refine ak h (fun hg5_2 h => ?_) (fun hg5_2 h => ?_)
 refine yx hn 3 ?_
 refine yd hg5_2 3 ?_
 refine ye [3,8,9,10,4,5,20] ?_
 exact hl76 _ (zi h).symm
 refine yx hn 3 ?_
 refine yd hg5_2 3 ?_
 refine ye [3,8,9,10,4,5,20] ?_
 exact hl76 _ (zi h).symm
 refine bh (ar (ar (bb ?_)))
 refine ag [0] (by kernel_rfl) (es':=[(_,_)]) rfl ?_
 exact hl59 _ (ho61 _ (zi h).symm).symm
theorem kK (a:KK) (b:KK) (r:Bool) (h:Sh.ez a b=some r):bM Tryz.prog 56 [.v (.string a),.v (.string b)] (.v (.bool r)):=by
 unfold Sh.ez at h
 refine yO 10 func56 fun g0 hn hio => ?_
 refine aG hn 1 [0,1] ?_
 refine ab ?_
 obtain ⟨v1,hv1,v2,hv2,h⟩:=eo h
 refine yx hn 1 ?_
 refine ys 1 ⟨lk call71 (dX _ _ hv1)⟩ ?_
 refine ys 2 ⟨lk call71 (dX _ _ hv2)⟩ ?_
 refine aV [4] ?_
 refine aj ?_
 obtain rfl:=zi h
 exact al hio rfl (.tmp _ _ .nil) rfl rfl
theorem mX (s:KK) (least:Int) (r:Bool) (h:Sh.dY s least=some r):bM Tryz.prog 58 [.v (.string s),.v (.int .u8 least)] (.v (.bool r)):=by
 unfold Sh.dY at h
 refine yO 23 func58 fun g0 hn hio => ?_
 refine aG hn 1 [0,1] ?_
 refine ab ?_
 refine aG hn 3 [0,1,7,8] ?_
 refine aU h (fun (s17:Int)=>[(0,vs s),(1,.v (.int .u8 least)),(7,vi (s.size:Int)),(8,vi s17)]) (fun (():Unit)=>[]) ?_ ?_
 rintro ⟨⟩ h
 refine af ?_
 refine aG hn 1 [4] ?_
 refine aj ?_
 obtain rfl:=zi h
 exact al hio rfl (.tmp _ _ .nil) rfl rfl
 rintro u24 hl25 hr26 s17 rr29 h ho27
 refine aG hn 1 [0,1,7,8,9] ?_
 refine ab ?_
 refine zc h rfl (fun h => ?_) (fun h => ?_)
 refine am ?_
 refine af (ab ?_)
 refine aC ?_
 refine aG hn 2 [0,1,7,8,5] ?_
 refine ab ?_
 refine ay h (fun (s31:Bool)=>[(0,vs s),(1,.v (.int .u8 least)),(7,vi (s.size:Int)),(8,vi s17),(21,vb s31)]) ?_ ?_
 rintro s31 h
 refine af ?_
 refine zc h rfl (fun h => ?_) (fun h => ?_)
 refine aG hn 1 [4] ?_
 refine aj (aE (ai (ai (aE (ai ?_)))))
 have h:=hr26 _ (ho27 _ (zi h).symm).symm
 obtain rfl:=zi h
 exact al hio rfl (.tmp _ _ .nil) rfl rfl
 refine am (aI (af ?_))
 obtain ⟨v9,hv9,h⟩:=zn h
 refine yx hn 0 ?_
 refine ys 0 ⟨lb hv9⟩ ?_
 refine yw [8] 1 ?_
 refine ye [0,1,7,8] ?_
 exact bc _ (zi h).symm rfl
 intro u32 h hl33 hr34
 obtain ⟨v2,hv2,h⟩:=zn h
 refine ak h (fun hg4_5 h => ?_) (fun hg4_5 h => ?_)
 refine yx hn 2 ?_
 refine ys 3 ⟨lh hv2⟩ ?_
 refine yd hg4_5 5 ?_
 refine ye [0,1,7,8,21] ?_
 exact hl33 _ (zi h).symm
 obtain ⟨v3,hv3,h⟩:=zn h
 refine yx hn 2 ?_
 refine ys 3 ⟨lh hv2⟩ ?_
 refine yd hg4_5 2 ?_
 refine ys 2 ⟨lh hv3⟩ ?_
 refine ye [0,1,7,8,21] ?_
 exact hl33 _ (zi h).symm
 refine bh (ar (ar (bb ?_)))
 refine ag [] (by kernel_rfl) (es':=[]) rfl ?_
 exact hl25 _ (ho27 _ (zi h).symm).symm
theorem me (s:KK) (r:Bool) (h:Sh.jP s=some r):bM Tryz.prog 57 [.v (.string s)] (.v (.bool r)):=by
 unfold Sh.jP at h
 refine yO 15 func57 fun g0 hn hio => ?_
 refine aG hn 1 [0] ?_
 refine ab ?_
 refine ay h (fun (s2:Bool)=>[(2,vb s2)]) ?_ ?_
 rintro s2 h
 refine af (aj ?_)
 obtain rfl:=zi h
 exact al hio rfl (.tmp _ _ .nil) rfl rfl
 intro u3 h hl4 hr5
 refine ak h (fun hg1_3 h => ?_) (fun hg1_3 h => ?_)
 refine ak h (fun hg1_8 h => ?_) (fun hg1_8 h => ?_)
 obtain ⟨v1,hv1,h⟩:=zn h
 refine yx hn 4 ?_
 refine yd hg1_3 5 ?_
 refine yd hg1_8 1 ?_
 refine ys 2 ⟨lk call58 (mX _ _ _ hv1)⟩ ?_
 refine ye [2] ?_
 exact hl4 _ (zi h).symm
 refine yx hn 4 ?_
 refine yd hg1_3 5 ?_
 refine yd hg1_8 4 ?_
 refine ye [2] ?_
 exact hl4 _ (zi h).symm
 refine yx hn 4 ?_
 refine yd hg1_3 9 ?_
 refine ye [2] ?_
 exact hl4 _ (zi h).symm
theorem mM (mx:Int×Nat×Value) (c:T_Config) (r:Int) (h:Sh.dZ c=some r):ir Tryz.prog (GL mx) 35 [.agg [.v (.string ((c.Kh.getD 0 (⟨#[]⟩:KK)))),.v (.string ((c.Kh.getD 1 (⟨#[]⟩:KK)))),.v (.int .i64 c.Ki),.v (.string c.KI),.v (.string c.KG),.v (.int .i64 c.Kt),.v (.bool c.Km)]] (.v (.int .i64 r)):=by
 unfold Sh.dZ at h
 refine yG 65 func35 fun g0 hn hio => ?_
 refine aG hn 2 [65,1] ?_
 refine ab ?_
 refine ay h (fun (s4:Bool)=>[(65,.glob (GL mx)),(1,.box 24 (T_Config.c c [])),(3,vb s4)]) ?_ ?_
 rintro s4 h
 refine af (ab ?_)
 refine ay h (fun (s8:Bool)=>[(65,.glob (GL mx)),(1,.box 24 (T_Config.c c [])),(3,vb s4),(4,vb s8)]) ?_ ?_
 rintro s8 h
 refine af (ab ?_)
 refine ay h (fun (s14:Bool)=>[(65,.glob (GL mx)),(1,.box 24 (T_Config.c c [])),(3,vb s4),(4,vb s8),(5,vb s14)]) ?_ ?_
 rintro s14 h
 refine af (ab ?_)
 refine ay h (fun (s18:Bool)=>[(65,.glob (GL mx)),(3,vb s4),(4,vb s8),(5,vb s14),(6,vb s18)]) ?_ ?_
 rintro s18 h
 refine af (ab ?_)
 refine ab ?_
 refine ay h (fun (s22:Bool)=>[(65,.glob (GL mx)),(64,vb s22)]) ?_ ?_
 rintro s22 h
 refine af ?_
 refine zc h rfl (fun h => ?_) (fun h => ?_)
 refine aG hn 1 [65,2] ?_
 refine aj ?_
 refine ag [1] (by kernel_rfl) (es':=[(_,_)]) rfl ?_
 refine ai ?_
 obtain rfl:=zi h
 exact al hio rfl (.tmp _ _ .nil) rfl rfl
 refine am (af ?_)
 refine aG hn 1 [65,2] ?_
 refine aj ?_
 refine ag [1] (by kernel_rfl) (es':=[(_,_)]) rfl ?_
 obtain rfl:=zi h
 exact al hio rfl (.tmp _ _ .nil) rfl rfl
 intro u23 h hl24 hr25
 refine ak h (fun hg5_2 h => ?_) (fun hg5_2 h => ?_)
 refine yx hn 3 ?_
 refine yd hg5_2 11 ?_
 refine ye [65,64] ?_
 exact hl24 _ (zi h).symm
 refine ak h (fun hg5_6 h => ?_) (fun hg5_6 h => ?_)
 refine yx hn 3 ?_
 refine yd hg5_2 4 ?_
 refine yd hg5_6 7 ?_
 refine ye [65,64] ?_
 exact hl24 _ (zi h).symm
 refine ak h (fun hg5_10 h => ?_) (fun hg5_10 h => ?_)
 refine yx hn 3 ?_
 refine yd hg5_2 4 ?_
 refine yd hg5_6 4 ?_
 refine yd hg5_10 3 ?_
 refine ye [65,64] ?_
 exact hl24 _ (zi h).symm
 refine yx hn 3 ?_
 refine yd hg5_2 4 ?_
 refine yd hg5_6 4 ?_
 refine yd hg5_10 3 ?_
 refine ye [65,64] ?_
 exact hl24 _ (zi h).symm
 intro u19 h hl20 hr21
 refine ak h (fun hg4_3 h => ?_) (fun hg4_3 h => ?_)
 refine yx hn 4 ?_
 refine yd hg4_3 5 ?_
 refine ye [65,3,4,5,6] ?_
 exact hl20 _ (zi h).symm
 refine yx hn 4 ?_
 refine yd hg4_3 5 ?_
 refine ye [65,3,4,5,6] ?_
 exact hl20 _ (zi h).symm
 intro u15 h hl16 hr17
 obtain ⟨v12,hv12,h⟩:=zn h
 refine ak h (fun hg3_3 h => ?_) (fun hg3_3 h => ?_)
 obtain ⟨v13,hv13,h⟩:=zn h
 refine yx hn 2 ?_
 refine ys 1 ⟨lk call57 (me _ _ hv12)⟩ ?_
 refine yd hg3_3 2 ?_
 refine ys 2 ⟨lk call57 (me _ _ hv13)⟩ ?_
 refine ye [65,1,3,4,5] ?_
 exact hl16 _ (zi h).symm
 refine yx hn 2 ?_
 refine ys 1 ⟨lk call57 (me _ _ hv12)⟩ ?_
 refine yd hg3_3 5 ?_
 refine ye [65,1,3,4,5] ?_
 exact hl16 _ (zi h).symm
 intro u9 h hl10 hr11
 refine ak h (fun hg2_3 h => ?_) (fun hg2_3 h => ?_)
 refine yx hn 4 ?_
 refine yd hg2_3 5 ?_
 refine ye [65,1,3,4] ?_
 exact hl10 _ (zi h).symm
 refine yx hn 4 ?_
 refine yd hg2_3 5 ?_
 refine ye [65,1,3,4] ?_
 exact hl10 _ (zi h).symm
 intro u5 h hl6 hr7
 obtain ⟨v1,hv1,h⟩:=zn h
 refine ak h (fun hg1_4 h => ?_) (fun hg1_4 h => ?_)
 obtain ⟨v2,hv2,h⟩:=zn h
 refine ak h (fun hg1_10 h => ?_) (fun hg1_10 h => ?_)
 obtain ⟨v3,hv3,h⟩:=zn h
 refine yx hn 1 ?_
 refine yS (.ptr 1 0) 1 ⟨bt _ _ _ _ 2 1 0 0 1 underlying22 rL rfl rfl (by decide) (by decide)⟩ ?_
 refine ys 1 ⟨lg call55 (bN _ _ _ hv1) 65⟩ ?_
 refine yd hg1_4 1 ?_
 refine yS (.ptr 1 1) 1 ⟨bt _ _ _ _ 2 1 0 1 1 underlying22 rL rfl rfl (by decide) (by decide)⟩ ?_
 refine ys 2 ⟨lg call55 (bN _ _ _ hv2) 65⟩ ?_
 refine yd hg1_10 1 ?_
 refine yS (.ptr 1 0) 2 ⟨bt _ _ _ _ 2 1 0 0 1 underlying22 rL rfl rfl (by decide) (by decide)⟩ ?_
 refine yS (.ptr 1 1) 1 ⟨bt _ _ _ _ 2 1 0 1 1 underlying22 rL rfl rfl (by decide) (by decide)⟩ ?_
 refine ys 3 ⟨lk call56 (kK _ _ _ hv3)⟩ ?_
 refine ye [65,1,3] ?_
 exact hl6 _ (zi h).symm
 refine yx hn 1 ?_
 refine yS (.ptr 1 0) 1 ⟨bt _ _ _ _ 2 1 0 0 1 underlying22 rL rfl rfl (by decide) (by decide)⟩ ?_
 refine ys 1 ⟨lg call55 (bN _ _ _ hv1) 65⟩ ?_
 refine yd hg1_4 1 ?_
 refine yS (.ptr 1 1) 1 ⟨bt _ _ _ _ 2 1 0 1 1 underlying22 rL rfl rfl (by decide) (by decide)⟩ ?_
 refine ys 2 ⟨lg call55 (bN _ _ _ hv2) 65⟩ ?_
 refine yd hg1_10 10 ?_
 refine ye [65,1,3] ?_
 exact hl6 _ (zi h).symm
 refine yx hn 1 ?_
 refine yS (.ptr 1 0) 1 ⟨bt _ _ _ _ 2 1 0 0 1 underlying22 rL rfl rfl (by decide) (by decide)⟩ ?_
 refine ys 1 ⟨lg call55 (bN _ _ _ hv1) 65⟩ ?_
 refine yd hg1_4 16 ?_
 refine ye [65,1,3] ?_
 exact hl6 _ (zi h).symm
theorem nV (g:T_Gate) (r:Bool) (h:Sh.cV g=some r):bM Tryz.prog 36 [.agg [.v (.int .i64 g.KC),.v (.string g.Kn),.v (.bool g.Kj.Kx),.v (.string g.Kj.Ks),.v (.string g.Kj.Kg),.fl .shr 3 (flatten (map T_Path.enc g.To)),.v (.bool g.KE),.fl .shr 1 (map (int .u8) g.Kd),.v (.string g.Ke),.v (.bool g.KD)]] (.v (.bool r)):=by
 unfold Sh.cV at h
 refine yO 22 func36 fun g0 hn hio => ?_
 refine aG hn 2 [1] ?_
 refine ab ?_
 refine ay h (fun (s2:Bool)=>[(2,vb s2)]) ?_ ?_
 rintro s2 h
 refine af (aj ?_)
 obtain rfl:=zi h
 exact al hio rfl (.tmp _ _ .nil) rfl rfl
 intro u3 h hl4 hr5
 refine ak h (fun hg1_3 h => ?_) (fun hg1_3 h => ?_)
 refine ak h (fun hg1_8 h => ?_) (fun hg1_8 h => ?_)
 refine ak h (fun hg1_14 h => ?_) (fun hg1_14 h => ?_)
 obtain ⟨v1,hv1,h⟩:=zn h
 refine yx hn 4 ?_
 refine yd hg1_3 5 ?_
 refine yd hg1_8 6 ?_
 refine yd hg1_14 2 ?_
 refine ys 2 ⟨lk call58 (mX _ _ _ hv1)⟩ ?_
 refine ye [2] ?_
 exact hl4 _ (zi h).symm
 refine yx hn 4 ?_
 refine yd hg1_3 5 ?_
 refine yd hg1_8 6 ?_
 refine yd hg1_14 5 ?_
 refine ye [2] ?_
 exact hl4 _ (zi h).symm
 refine yx hn 4 ?_
 refine yd hg1_3 5 ?_
 refine yd hg1_8 11 ?_
 refine ye [2] ?_
 exact hl4 _ (zi h).symm
 refine yx hn 4 ?_
 refine yd hg1_3 16 ?_
 refine ye [2] ?_
 exact hl4 _ (zi h).symm
theorem iC (l:(List T_Path)) (r:(List T_Path)) (h:Sh.cc l=some r):bM Tryz.prog 59 [.fl .shr 3 (flatten (map T_Path.enc l))] (.fl (.own 26) 3 (flatten (map T_Path.enc r))):=by
 unfold Sh.cc at h
 refine yO 5 func59 fun g0 hn hio => ?_
 refine aG hn 1 [0] ?_
 refine ab ?_
 obtain ⟨v1,hv1,h⟩:=zn h
 refine yx hn 1 ?_
 refine yS (.fl (.own 26) 3 (flatten (map T_Path.enc v1))) 0 ⟨oX _ _ _ _ Hh rfl rfl (jT T_Path.len _) hv1 (congrArg (fun l=>flatten (map _ l)) (oY hv1))⟩ ?_
 refine ya 0 ?_
 refine aV [2] ?_
 refine aj ?_
 obtain rfl:=zi h
 exact al hio rfl (.tmp _ _ .nil) rfl rfl
theorem oo (l:(List Int)) (r:(List Int)) (h:Sh.gN l=some r):bM Tryz.prog 60 [.fl .shr 1 (map (int .u8) l)] (.fl (.own 5) 1 (map (int .u8) r)):=by
 unfold Sh.gN at h
 refine yO 5 func60 fun g0 hn hio => ?_
 refine aG hn 1 [0] ?_
 refine ab ?_
 obtain ⟨v1,hv1,h⟩:=zn h
 refine yx hn 1 ?_
 refine yS (.fl (.own 5) 1 (map (int .u8) v1)) 0 ⟨oX _ _ _ _ jN rfl rfl (gp _) hv1 (congrArg (map _) (oY hv1))⟩ ?_
 refine ya 0 ?_
 refine aV [2] ?_
 refine aj ?_
 obtain rfl:=zi h
 exact al hio rfl (.tmp _ _ .nil) rfl rfl
theorem oe (g:T_Gate) (r:T_Gate) (h:Sh.ji g=some r):bM Tryz.prog 37 [.agg [.v (.int .i64 g.KC),.v (.string g.Kn),.v (.bool g.Kj.Kx),.v (.string g.Kj.Ks),.v (.string g.Kj.Kg),.fl .shr 3 (flatten (map T_Path.enc g.To)),.v (.bool g.KE),.fl .shr 1 (map (int .u8) g.Kd),.v (.string g.Ke),.v (.bool g.KD)]] (.agg [.v (.int .i64 r.KC),.v (.string r.Kn),.v (.bool r.Kj.Kx),.v (.string r.Kj.Ks),.v (.string r.Kj.Kg),.fl (.own 26) 3 (flatten (map T_Path.enc r.To)),.v (.bool r.KE),.fl (.own 5) 1 (map (int .u8) r.Kd),.v (.string r.Ke),.v (.bool r.KD)]):=by
 unfold Sh.ji at h
 refine yO 12 func37 fun g0 hn hio => ?_
 refine gE hn 1 ?_
 refine yS (.box 30 [vi 0,vs z0,vb false,vs z0,vs z0,vz,vb false,vz,vs z0,vb false]) 0 ⟨oA (aR _ _ sS)⟩ ?_
 refine aV [1,2] ?_
 refine ab ?_
 obtain ⟨v1,hv1,h⟩:=zn h
 refine yx hn 2 ?_
 refine ys 1 ⟨lk call59 (iC _ _ hv1)⟩ ?_
 refine yk [5,1] [6] ?_
 refine yt (1,.box 30 [vi g.KC,vs g.Kn,vb g.Kj.Kx,vs g.Kj.Ks,vs g.Kj.Kg,.fl (.own 26) 3 (flatten (map T_Path.enc v1)),vb g.KE,fb g.Kd,vs g.Ke,vb g.KD]) 0 ⟨aM _ _ _ _ _ _ _ _ Ht rfl rfl rfl (zl rfl) rfl rfl⟩ ?_
 refine aV [1,2] ?_
 refine ab ?_
 obtain ⟨v2,hv2,h⟩:=zn h
 refine yx hn 2 ?_
 refine ys 1 ⟨lk call60 (oo _ _ hv2)⟩ ?_
 refine yk [9,1] [10] ?_
 refine yt (1,.box 30 [vi g.KC,vs g.Kn,vb g.Kj.Kx,vs g.Kj.Ks,vs g.Kj.Kg,.fl (.own 26) 3 (flatten (map T_Path.enc v1)),vb g.KE,.fl (.own 5) 1 (map (int .u8) v2),vs g.Ke,vb g.KD]) 0 ⟨aM _ _ _ _ _ _ _ _ kQ rfl rfl rfl (zl rfl) rfl rfl⟩ ?_
 refine aV [1,2] ?_
 refine gE hn 0 ?_
 refine yk [1] [] ?_
 refine yt (11,.agg [vi g.KC,vs g.Kn,vb g.Kj.Kx,vs g.Kj.Ks,vs g.Kj.Kg,.fl (.own 26) 3 (flatten (map T_Path.enc v1)),vb g.KE,.fl (.own 5) 1 (map (int .u8) v2),vs g.Ke,vb g.KD]) 0 ⟨nZ _ _ _ _ underlying30 rfl pj rfl rfl⟩ ?_
 refine yk [11,2] [] ?_
 refine yt (2,.box 30 [vi g.KC,vs g.Kn,vb g.Kj.Kx,vs g.Kj.Ks,vs g.Kj.Kg,.fl (.own 26) 3 (flatten (map T_Path.enc v1)),vb g.KE,.fl (.own 5) 1 (map (int .u8) v2),vs g.Ke,vb g.KD]) 0 ⟨aM _ _ _ _ _ _ _ _ pj rfl rfl rfl (zl rfl) rfl rfl⟩ ?_
 refine aV [2] ?_
 refine aj ?_
 obtain rfl:=zi h
 exact al hio rfl (.cellA _ _ _ _ underlying30 rfl pj .nil) rfl rfl
theorem nu (a:(List Int)) (b:(List Int)) (r:Bool) (h:Sh.gW a b=some r):bM Tryz.prog 72 [.fl .shr 1 (map (int .u8) a),.fl .shr 1 (map (int .u8) b)] (.v (.bool r)):=by
 unfold Sh.gW at h
 refine yO 10 func72 fun g0 hn hio => ?_
 refine aG hn 1 [0,1] ?_
 refine ab ?_
 obtain ⟨v1,hv1,v2,hv2,h⟩:=eo h
 refine yx hn 1 ?_
 refine ys 1 ⟨lS hv1⟩ ?_
 refine ys 2 ⟨lS hv2⟩ ?_
 refine aV [4] ?_
 refine aj ?_
 obtain rfl:=zi h
 exact al hio rfl (.tmp _ _ .nil) rfl rfl
theorem oz (s:(List Int)) (suffix:(List Int)) (r:Bool) (h:Sh.eX s suffix=some r):bM Tryz.prog 61 [.fl .shr 1 (map (int .u8) s),.fl .shr 1 (map (int .u8) suffix)] (.v (.bool r)):=by
 unfold Sh.eX at h
 refine yO 21 func61 fun g0 hn hio => ?_
 refine aG hn 1 [0,1] ?_
 refine ab ?_
 refine ay h (fun (s4:Bool)=>[(4,vb s4)]) ?_ ?_
 rintro s4 h
 refine af (aj ?_)
 obtain rfl:=zi h
 exact al hio rfl (.tmp _ _ .nil) rfl rfl
 intro u5 h hl6 hr7
 refine ak h (fun hg1_5 h => ?_) (fun hg1_5 h => ?_)
 obtain ⟨v1,hv1,v2,hv2,v3,hv3,h⟩:=rZ h
 refine yx hn 6 ?_
 refine yd hg1_5 5 ?_
 refine ys 0 ⟨lb hv1⟩ ?_
 refine yS (fb v2) 1 ⟨lA _ _ _ v1 (s.length:Int) _ underlying28 lQ rfl rfl ⟨_,rfl⟩ rfl hv2⟩ ?_
 refine ys 2 ⟨lk call72 (nu _ _ _ hv3)⟩ ?_
 refine ye [4] ?_
 exact hl6 _ (zi h).symm
 refine yx hn 6 ?_
 refine yd hg1_5 11 ?_
 refine ye [4] ?_
 exact hl6 _ (zi h).symm
theorem kW (s:aa) (x:Int) (r:(Bool×aa)) (h:Sh.cg s x=some r):oM Tryz.prog 38 [.box 80 (aa.b s),.v (.int .u8 x)] [.box 80 (aa.b r.2)] (.v (.bool r.1)):=by
 unfold Sh.cg at h
 refine yP 39 func38 fun args0 hargs0 g0 hn hio => ?_
 refine aG hn 1 [0,1,0] ?_
 refine ab ?_
 refine aG hn 6 [0,1,10,0] ?_
 refine zc h rfl (fun h => ?_) (fun h => ?_)
 refine ab ?_
 refine ay h (fun (s4:Bool)=>[(0,.box 80 (aa.b s)),(4,vb s4),(0,.v (List.getD args0 0 undef))]) ?_ ?_
 rintro s4 h
 refine af (aj ?_)
 refine ag [1,0,2] (by kernel_rfl) (es':=[(_,_),(_,_),(_,_)]) rfl ?_
 refine ai ?_
 obtain rfl:=zi h
 exact bp (es:=[(4,.v (.bool s4))]) (posts:=[.box 80 (aa.b s)]) hio rfl rfl (.tmp _ _ .nil) rfl rfl hargs0 rfl
 intro u5 h hl6 hr7
 obtain ⟨v2,hv2,h⟩:=zn h
 refine ak h (fun hg2_7 h => ?_) (fun hg2_7 h => ?_)
 refine yx hn 5 ?_
 refine ys 2 ⟨lM hv2⟩ ?_
 refine yd hg2_7 10 ?_
 refine ye [0,4,0] ?_
 exact hl6 _ (zi h).symm
 obtain ⟨v3,hv3,h⟩:=zn h
 refine yx hn 5 ?_
 refine ys 2 ⟨lM hv2⟩ ?_
 refine yd hg2_7 5 ?_
 refine yS (.fl (.own 5) 1 (map (int .u8) [13,10,46,13,10])) 0 ⟨bi _ _ 1 (.int .u8 0) (map (int .u8) [13,10,46,13,10]) [(0,.int .u8 13),(1,.int .u8 10),(2,.int .u8 46),(3,.int .u8 13),(4,.int .u8 10)] underlying28 lQ uA (fun _ V w o a hv hes=>by simp only [List.map_toArray,List.map_cons,List.map_nil]; try rfl) (dn (by simp [Instr.fill,Value.cells]; rfl) (by simp [List.range,List.range.loop] <;> rfl)) (by simp [Value.oneCell']) rfl (by decide) (by decide) (by decide)⟩ ?_
 refine yk [24] [] ?_
 refine yt (25,.fl .ro 1 (map (int .u8) [13,10,46,13,10])) 0 ⟨gn _ _ _ underlying28 underlying5 (by intro h; cases h)⟩ ?_
 refine ys 2 ⟨lk call61 (oz _ _ _ hv3)⟩ ?_
 refine ye [0,4,0] ?_
 exact hl6 _ (zi h).symm
 refine am ?_
 refine af (ab ?_)
 refine ay h (fun (s8:Bool)=>[(0,.box 80 (aa.b s)),(4,vb s8),(0,.v (List.getD args0 0 undef))]) ?_ ?_
 rintro s8 h
 refine af (aj ?_)
 refine ag [1,0,2] (by kernel_rfl) (es':=[(_,_),(_,_),(_,_)]) rfl ?_
 obtain rfl:=zi h
 exact bp (es:=[(4,.v (.bool s8))]) (posts:=[.box 80 (aa.b s)]) hio rfl rfl (.tmp _ _ .nil) rfl rfl hargs0 rfl
 intro u9 h hl10 hr11
 refine ak h (fun hg3_2 h => ?_) (fun hg3_2 h => ?_)
 refine yx hn 3 ?_
 refine yd hg3_2 9 ?_
 refine ye [0,4,0] ?_
 exact hl10 _ (zi h).symm
 refine yx hn 3 ?_
 refine yd hg3_2 5 ?_
 refine yS (vi (s.Kk.Kd.length:Int)) 3 ⟨nF _ _ _ underlying28 rfl (List.length_map _)⟩ ?_
 refine ye [0,4,0] ?_
 exact hl10 _ (zi h).symm
theorem gL (b:(List Int)) (r:(List Int)) (h:Sh.cU b=some r):bM Tryz.prog 96 [.fl .shr 1 (map (int .u8) b)] (.cloB 123 [.box 28 [.fl .shr 1 (map (int .u8) r)]]):=by
 unfold Sh.cU at h
 refine yO 4 func96 fun g0 hn hio => ?_
 refine aG hn 2 [1] ?_
 refine gE hn 0 ?_
 refine yk [1] [] ?_
 refine yt (3,.cloB 123 [.box 28 [fb b]]) 0 ⟨vU _ _ [1] [.box 28 [fb b]] rfl rfl rfl⟩ ?_
 refine ya 0 ?_
 refine aV [2] ?_
 refine aj ?_
 obtain rfl:=zi h
 exact al hio rfl (.tmp _ _ .nil) rfl rfl
theorem sb (mx:Int×Nat×Value) (s sep:List Int) (r:Int) (h:Sh.ig s sep=some r):ir Tryz.prog (GL mx) 89 [.fl .shr 1 (map (int .u8) s),.fl .shr 1 (map (int .u8) sep)] (.v (.int .i64 r)) :=
 qP (uv mx) Tryz.bytes_Index_at Tryz.bytes_Index_longer s sep r h
theorem qH (mx:Int×Nat×Value) (s:(List Int)) (sep:(List Int)) (r:((List Int)×(List Int)×Bool)) (h:Sh.dN s sep=some r):ir Tryz.prog (GL mx) 74 [.fl .shr 1 (map (int .u8) s),.fl .shr 1 (map (int .u8) sep)] (.tup [.fl .shr 1 (map (int .u8) r.1),.fl .shr 1 (map (int .u8) r.2.1),.v (.bool r.2.2)]):=by
 unfold Sh.dN at h
 refine yG 23 func74 fun g0 hn hio => ?_
 refine aG hn 3 [0,1,23] ?_
 refine ab (ab ?_)
 obtain ⟨v1,hv1,h⟩:=zn h
 refine yx hn 2 ?_
 refine ys 1 ⟨lg call89 (sb _ _ _ _ hv1) 23⟩ ?_
 refine aV [0,1,23,7] ?_
 refine aG hn 2 [0,1,23,7,12] ?_
 refine zc h rfl (fun h => ?_) (fun h => ?_)
 refine ab ?_
 obtain ⟨v3,hv3,v4,hv4,v5,hv5,h⟩:=rZ h
 refine wb [[0],[7]] ?_
 refine wN [13,14] ?_
 refine wS (fb v3) [[0],[7],[1],[18]] ⟨lA _ _ _ 0 v1 _ underlying28 lQ rfl rfl rfl ⟨_,rfl⟩ hv3⟩ ?_
 refine wN [17,19] ?_
 refine wo [] ⟨lb hv4⟩ ?_
 refine wN [16,20] ?_
 refine wS (fb v5) [[15],[21],[]] ⟨lA _ _ _ v4 (s.length:Int) _ underlying28 lQ rfl rfl ⟨_,rfl⟩ rfl hv5⟩ ?_
 refine sF hn [23,4,5,6] ?_
 refine aj ?_
 refine ag [1,2,3] (by kernel_rfl) (es':=[(_,_),(_,_),(_,_)]) rfl ?_
 refine ai ?_
 obtain rfl:=zi h
 exact al hio rfl (.tmp _ _ (.tmp _ _ (.tmp _ _ .nil))) rfl rfl
 refine am (af ?_)
 refine aG hn 4 [23,4,5,6] ?_
 refine aj ?_
 refine ag [1,2,3] (by kernel_rfl) (es':=[(_,_),(_,_),(_,_)]) rfl ?_
 refine cm (fs:=[(4,fb s),(5,fb []),(6,vb false)]) (.same _ (.sub _ (wM 1) rfl (.same _ .nil))) ?_
 obtain rfl:=zi h
 exact al hio rfl (.tmp _ _ (.tmp _ _ (.tmp _ _ .nil))) rfl rfl
theorem fa (mx:Int×Nat×Value) (l:Nat) {S:Type} (J:S→kU) (Y:(List Int)→S→Option (S×Bool)) (hY:pm Tryz.prog l (fun x => .fl .shr 1 (map (int .u8) x)) Y J) (c0:(List Int)) (st r:S) (h:Sh.da Y c0 st=some r):GC Tryz.prog (GL mx) 123 l [.box 28 [.fl .shr 1 (map (int .u8) c0)]] (J st) (J r):=by
 unfold Sh.da at h
 refine yI 23 func123 fun g0 hn hio => ?_
 refine aU h (fun ((s17,s18):(List Int)×S)=>[(0,.v (.func (.yield l) #[] #[])),(1,.box 28 [fb s17]),(23,.glob (GL mx)),(24,.inv (J s18))]) (fun (():Unit)=>[]) ?_ ?_
 rintro ⟨⟩ h
 cases h
 rintro u25 hl26 hr27 ⟨s17,s18⟩ rr30 h ho28
 refine aC (ab ?_)
 obtain ⟨v1,hv1,h⟩:=zn h
 refine yx hn 1 ?_
 refine yS (.fl (.own 5) 1 (map (int .u8) [13,10])) 0 ⟨bi _ _ 1 (.int .u8 0) (map (int .u8) [13,10]) [(0,.int .u8 13),(1,.int .u8 10)] underlying28 lQ uA (fun _ V w o a hv hes=>by simp only [List.map_toArray,List.map_cons,List.map_nil]; try rfl) (dn (by simp [Instr.fill,Value.cells]; rfl) (by simp [List.range,List.range.loop] <;> rfl)) (by simp [Value.oneCell']) rfl (by decide) (by decide) (by decide)⟩ ?_
 refine yk [8] [] ?_
 refine yt (9,.fl .ro 1 (map (int .u8) [13,10])) 0 ⟨gn _ _ _ underlying28 underlying5 (by intro h; cases h)⟩ ?_
 refine yk [] [7,9,23] ?_
 refine yt (10,.tup [fb v1.1,fb v1.2.1,vb v1.2.2]) 0 ⟨Ag _ _ 23 74 _ _ rfl call74 rfl rfl rfl (fun _ h=>h) (qH mx s17 [13,10] _ hv1) rfl⟩ ?_
 refine ym 6 ?_
 refine aV [0,1,23,24,3,4,5] ?_
 refine ab (ab ?_)
 refine ay h (fun ((s31,s32):S×Bool)=>[(0,.v (.func (.yield l) #[] #[])),(1,.box 28 [fb s17]),(23,.glob (GL mx)),(24,.inv (J s31)),(4,fb v1.2.1),(21,vb s32)]) ?_ ?_
 rintro ⟨s31,s32⟩ h
 refine af ?_
 refine zc h rfl (fun h => ?_) (fun h => ?_)
 refine aj ?_
 refine ag [3] (by kernel_rfl) (es':=[(24,.inv (J s31))]) rfl ?_
 refine ai (aE (ai (aE ?_)))
 have h:=hr27 _ (ho28 _ (zi h).symm).symm
 obtain rfl:=zi h
 exact qS hio rfl rfl rfl
 refine am (af ?_)
 refine yy hn 2 [0,1,23,24] ?_
 refine aI ?_
 exact bc _ (zi h).symm rfl
 intro u33 h hl34 hr35
 refine ak h (fun hg1_2 h => ?_) (fun hg1_2 h => ?_)
 refine yx hn 3 ?_
 refine yd hg1_2 5 ?_
 refine ye [0,1,23,24,4,21] ?_
 exact hl34 _ (zi h).symm
 obtain ⟨v2,hv2,h⟩:=zn h
 refine yx hn 3 ?_
 refine yd hg1_2 2 ?_
 refine yk [24] [18,17] ?_
 refine nE (24,.inv (J v2.1)) (19,vb v2.2) 2 ⟨pd _ _ 24 l v1.1 s18 v2 hY hv2 rfl rfl rfl⟩ ?_
 refine ye [0,1,23,24,4,21] ?_
 exact hl34 _ (zi h).symm
theorem pU (mx:Int×Nat×Value) (b:(List Int)) (r:(Int×Bool)) (h:Sh.dy b=some r):ir Tryz.prog (GL mx) 94 [.fl .shr 1 (map (int .u8) b)] (.tup [.v (.int .i64 r.1),.v (.bool r.2)]):=by
 unfold Sh.dy at h
 refine yG 17 func94 fun g0 hn hio => ?_
 refine gE hn 0 ?_
 refine yS (.box 3 [vi 0]) 0 ⟨oA (aR _ _ Iw)⟩ ?_
 refine yS (.box 4 [vb false]) 0 ⟨oA (aR _ _ Io)⟩ ?_
 refine aV [0,17,2,3] ?_
 refine ab (ab ?_)
 obtain ⟨v1,hv1,h⟩:=zn h
 refine yx hn 1 ?_
 refine yk [] [5] ?_
 refine yt (6,.cloB 123 [.box 28 [fb v1]]) 0 ⟨gJ _ _ 96 _ _ rfl call96 rfl rfl (gL b _ hv1) rfl⟩ ?_
 refine aV [17,2,3,6] ?_
 refine aC ?_
 refine jo [3,0,1,2] (by kernel_rfl) (es':=[(6,.cloB 123 [.box 28 [fb v1]]),(17,.glob (GL mx)),(2,.box 3 [vi 0]),(3,.box 4 [vb false])]) rfl ?_
 refine ia h 123 6 7 18 _ [17,2,3] call123 (fun (s8:Int)=>[(17,.glob (GL mx)),(2,.box 3 [.v (.int .i64 s8)]),(3,.box 4 [.v (.bool false)])]) (fun (s10:Int)=>[(17,.glob (GL mx)),(2,.box 3 [.v (.int .i64 s10)]),(3,.box 4 [.v (.bool true)])]) (fun l J Y hY t t' h=>fa mx l J Y hY v1 t t' h) hn rfl (fun _=>rfl) (fun _=>rfl) (fun _=>rfl) rfl rfl (fun _=>⟨rfl,rfl⟩) rfl (gY 17 rfl) ?_ ?_ ?_
 rintro kk g0 hn hio x s8 u h
 refine qo (es':=[(7,fb x),(17,.glob (GL mx)),(2,.box 3 [vi s8]),(3,.box 4 [vb false]),(17,.v (kk.tm.getD 17 undef)),(2,.v (kk.tm.getD 2 undef)),(3,.v (kk.tm.getD 3 undef)),(18,.inv kk.ready)]) rfl ?_
 refine yy hn 1 [17,2,3,18,4,17,2,3] ?_
 refine ag [0,1,2,4,5,6,7,3] (by kernel_rfl) (es':=[(17,.glob (GL mx)),(2,.box 3 [vi s8]),(3,.box 4 [vb false]),(4,fb x),(17,.v (kk.tm.getD 17 undef)),(2,.v (kk.tm.getD 2 undef)),(3,.v (kk.tm.getD 3 undef)),(18,.inv kk.ready)]) rfl ?_
 refine jt (es:=[(17,.glob (GL mx)),(2,.box 3 [vi s8]),(3,.box 4 [vb false]),(4,fb x),(17,.v (kk.tm.getD 17 undef)),(2,.v (kk.tm.getD 2 undef)),(3,.v (kk.tm.getD 3 undef))]) 18 rfl ?_
 refine aC (ab (ab ?_))
 obtain ⟨v2,hv2,h⟩:=zn h
 refine yx hn 1 ?_
 refine ys 1 ⟨lS hv2⟩ ?_
 refine aV [17,2,3,4,18,10,17,2,3] ?_
 refine zc h rfl (fun h => ?_) (fun h => ?_)
 refine aG hn 3 [17,2,3,18,17,2,3] ?_
 refine aj (ai (aE ?_))
 refine ag [0,1,2,4,5,6,3] (by kernel_rfl) (es':=[(_,_),(_,_),(_,_),(_,_),(_,_),(_,_),(_,_)]) rfl ?_
 obtain rfl:=zi h
 exact pq 18 [17,2,3] _ rfl rfl (by kernel_rfl)
 refine am (af ?_)
 obtain ⟨v4,hv4,v5,hv5,h⟩:=eo h
 refine yx hn 3 ?_
 refine ys 0 ⟨lb hv4⟩ ?_
 refine ys 1 ⟨lb hv5⟩ ?_
 refine ye [17,2,3,18,17,2,3] ?_
 refine aI ?_
 refine ag [0,1,2,4,5,6,3] (by kernel_rfl) (es':=[(_,_),(_,_),(_,_),(_,_),(_,_),(_,_),(_,_)]) rfl ?_
 obtain rfl:=zi h
 exact jB 18 [17,2,3] _ rfl rfl (by kernel_rfl)
 rintro D s8 h
 refine aI (af ?_)
 refine aG hn 2 [17,2,3] ?_
 refine aj ?_
 refine ag [1,2] (by kernel_rfl) (es':=[(_,_),(_,_)]) rfl ?_
 obtain rfl:=zi h
 exact al hio rfl (.cell1 _ _ _ _ underlying3 rfl (.cell1 _ _ _ _ underlying4 rfl .nil)) rfl rfl
 rintro D s10 h
 refine ag [1,2] (by kernel_rfl) (es':=[(_,_),(_,_)]) rfl ?_
 refine aE (ai ?_)
 obtain rfl:=zi h
 exact al hio rfl (.cell1 _ _ _ _ underlying3 rfl (.cell1 _ _ _ _ underlying4 rfl .nil)) rfl rfl
end Go.Proofs.YtjnnkhmhjcjhdaaGreatDoor
