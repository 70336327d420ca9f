import Derived.Test.YtjdmcbkkacnmdaaGreatDoorShelf
import Derived.Test.YtjdmcbkkacnmdaaGreatDoorIdx
import Derived.Test.YtjdmcbkkacnmdaaGreatDoorIns
import Derived.Test.YtjdmcbkkacnmdaaGreatDoorB1
import Derived.Test.YtjdmcbkkacnmdaaGreatDoorBI
import Derived.Test.YtjdmcbkkacnmdaaGreatDoorC1
import Derived.Test.YtjdmcbkkacnmdaaGreatDoorSh
set_option linter.unusedVariables false
set_option linter.unusedSimpArgs false
set_option maxHeartbeats 1000000
namespace Go.Proofs.YtjdmcbkkacnmdaaGreatDoor
open Go.Abs Go.Abs.Sh Tryz
open List (map flatten)
open Value (int)
def GL (mx:Int):List (Nat×List Value):=[(0,[.int .i64 mx]),(1,(List.map (Value.int .u8) gp)),(2,(List.map (Value.int .u8) iA))]
theorem xb (mx:Int):(0,([.int .i64 mx]:List Value))∈GL mx := .head _
theorem wY (mx:Int):(1,((List.map (Value.int .u8) gp):List Value))∈GL mx := .tail _ (.head _)
theorem Bh (mx:Int):(2,((List.map (Value.int .u8) iA):List Value))∈GL mx := .tail _ (.tail _ (.head _))
instance iUD22:UD Tryz.prog 22 (.slice 31):=⟨Tryz.underlying22⟩
instance iLiT_Rec:LenI T_Rec.ienc 15:=⟨T_Rec.ilen⟩
theorem gN:(Tryz.prog.info? 31).map (·.size)=some 15:=by kernel_rfl
theorem tw:(Tryz.prog.info? 26).map (·.size)=some 1:=by kernel_rfl
instance iSZ31:SZ Tryz.prog 31 15:=⟨by kernel_rfl⟩
instance iFO31_7:FO Tryz.prog 31 7 14:=⟨by kernel_rfl⟩
instance iUD26:UD Tryz.prog 26 (.slice 5):=⟨Tryz.underlying26⟩
theorem qt:(Tryz.prog.info? 29).map (·.size)=some 1:=by kernel_rfl
instance iFO31_3:FO Tryz.prog 31 3 10:=⟨by kernel_rfl⟩
instance iUD29:UD Tryz.prog 29 (.slice 3):=⟨Tryz.underlying29⟩
theorem ox:(Tryz.prog.info? 28).map (·.size)=some 8:=by kernel_rfl
theorem xo:(Tryz.prog.info? 28).bind (·.zero)=some (.agg #[.bool false,.string ByteArray.empty,.string ByteArray.empty,.slice none 0 0,.slice none 0 0,.bool false,.string ByteArray.empty,.int .i64 0]):=by kernel_rfl
instance iUD54:UD Tryz.prog 54 (.slice 28):=⟨Tryz.underlying54⟩
instance iLiT_Mail:LenI T_Mail.ienc 8:=⟨T_Mail.ilen⟩
theorem xv:(Tryz.prog.info? 24).map (·.size)=some 3:=by kernel_rfl
instance iSZ28:SZ Tryz.prog 28 8:=⟨by kernel_rfl⟩
instance iFO28_2:FO Tryz.prog 28 2 4:=⟨by kernel_rfl⟩
instance iFO28_4:FO Tryz.prog 28 4 6:=⟨by kernel_rfl⟩
instance iUD9:UD Tryz.prog 9 .string:=⟨Tryz.underlying9⟩
instance iFO28_0:FO Tryz.prog 28 0 0:=⟨by kernel_rfl⟩
instance iFO24_1:FO Tryz.prog 24 1 1:=⟨by kernel_rfl⟩
instance iFO24_2:FO Tryz.prog 24 2 2:=⟨by kernel_rfl⟩
theorem DJ:(Tryz.prog.info? 25).map (·.size)=some 1:=by kernel_rfl
instance iFO28_1:FO Tryz.prog 28 1 3:=⟨by kernel_rfl⟩
instance iUD25:UD Tryz.prog 25 (.slice 24):=⟨Tryz.underlying25⟩
instance iLT_Path:LenE T_Path.enc 3:=⟨T_Path.len⟩
instance iSZ24:SZ Tryz.prog 24 3:=⟨by kernel_rfl⟩
instance iAG9:AS Tryz.prog 9:=⟨by kernel_rfl⟩
instance iFO31_1:FO Tryz.prog 31 1 1:=⟨by kernel_rfl⟩
theorem kq:(Tryz.prog.info? 31).bind (·.zero)=some (.agg #[.int .i64 0,.bool false,.string ByteArray.empty,.string ByteArray.empty,.slice none 0 0,.slice none 0 0,.bool false,.string ByteArray.empty,.int .i64 0,.int .i64 0,.slice none 0 0,.int .i64 0,.int .i64 0,.int .i64 0,.slice none 0 0]):=by kernel_rfl
instance iAG31:AA Tryz.prog 31 15:=⟨by kernel_rfl⟩
theorem DD:iN Tryz.prog 25 24 3 40:=⟨⟨Tryz.t24,.agg #[.bool false,.string ByteArray.empty,.string ByteArray.empty],Tryz.underlying25,by kernel_rfl,by kernel_rfl,by kernel_rfl,by kernel_rfl,by decide,by kernel_rfl⟩⟩
theorem Aj:iN Tryz.prog 26 5 1 1:=⟨⟨Tryz.t5,.int .u8 0,Tryz.underlying26,by kernel_rfl,by kernel_rfl,by kernel_rfl,by kernel_rfl,by decide,by kernel_rfl⟩⟩
instance iAG25:AS Tryz.prog 25:=⟨by kernel_rfl⟩
instance iAG26:AS Tryz.prog 26:=⟨by kernel_rfl⟩
theorem vI:iN Tryz.prog 29 3 1 8:=⟨⟨Tryz.t3,.int .i64 0,Tryz.underlying29,by kernel_rfl,by kernel_rfl,by kernel_rfl,by kernel_rfl,by decide,by kernel_rfl⟩⟩
instance iAG28:AA Tryz.prog 28 8:=⟨by kernel_rfl⟩
instance iAG29:AS Tryz.prog 29:=⟨by kernel_rfl⟩
theorem CV:iN Tryz.prog 22 31 15 208:=⟨⟨Tryz.t31,.agg #[.int .i64 0,.bool false,.string ByteArray.empty,.string ByteArray.empty,.slice none 0 0,.slice none 0 0,.bool false,.string ByteArray.empty,.int .i64 0,.int .i64 0,.slice none 0 0,.int .i64 0,.int .i64 0,.int .i64 0,.slice none 0 0],Tryz.underlying22,by kernel_rfl,by kernel_rfl,by kernel_rfl,by kernel_rfl,by decide,by kernel_rfl⟩⟩
theorem iF:(Tryz.prog.info? 37).bind (·.zero)=some (.agg #[.slice none 0 0,.int .i64 0,.slice none 0 0,.slice none 0 0,.int .i64 0,.slice none 0 0]):=by kernel_rfl
def bD (x:ae):List AV:=[.v (.int .i64 x.Id),.v (.bool x.GS.GM.GT),.v (.string x.GS.GM.GR),.v (.string x.GS.GM.GJ),.fl (.own 24) 3 (List.flatten (List.map T_Path.enc x.GS.To)),.fl (.own 5) 1 (List.map (Value.int .u8) x.GS.GH),.v (.bool x.GS.Ha),.v (.string x.GS.GN),.v (.int .i64 x.GS.At),.v (.int .i64 x.Hc),.v (.int .i64 x.GX)]
theorem aM (x:ae):(bD x).length=11:=rfl
theorem jB (x:ae):br (bD x)=true:=rfl
theorem jy (x:ae):fp (bD x)=true:=rfl
theorem gU (x:ae):tN true ((bD x).map rp) (ae.ienc x) := .cons (.v _) (.cons (.v _) (.cons (.v _) (.cons (.v _) (.cons (.shr _ _ rfl rfl) (.cons (.shr _ _ rfl rfl) (.cons (.v _) (.cons (.v _) (.cons (.v _) (.cons (.v _) (.cons (.v _) (.nil)))))))))))
theorem zO:∀ fs,Tryz.prog.underlying 37=some (.struct fs)→fs.toList.map (fun f=>(Tryz.prog.info? f.type).map (·.size))=([1,1,1,1,1,1]:List Nat).map some:=by
 intro fs h
 rw [Tryz.underlying37] at h
 cases h
 kernel_rfl
theorem dn:(Tryz.prog.info? 37).map (·.size)=some 6:=by kernel_rfl
instance iAG37:AA Tryz.prog 37 6:=⟨by kernel_rfl⟩
theorem pd:(Tryz.prog.info? 3).map (·.size)=some 1:=by kernel_rfl
instance iFO31_0:FO Tryz.prog 31 0 0:=⟨by kernel_rfl⟩
instance iAG3:AS Tryz.prog 3:=⟨by kernel_rfl⟩
theorem Et:∀ fs,Tryz.prog.underlying 28=some (.struct fs)→fs.toList.map (fun f=>(Tryz.prog.info? f.type).map (·.size))=([3,1,1,1,1,1]:List Nat).map some:=by
 intro fs h
 rw [Tryz.underlying28] at h
 cases h
 kernel_rfl
instance iFO31_2:FO Tryz.prog 31 2 9:=⟨by kernel_rfl⟩
instance iFO31_4:FO Tryz.prog 31 4 11:=⟨by kernel_rfl⟩
instance iFO31_5:FO Tryz.prog 31 5 12:=⟨by kernel_rfl⟩
instance iFO31_6:FO Tryz.prog 31 6 13:=⟨by kernel_rfl⟩
theorem sR:∀ fs,Tryz.prog.underlying 24=some (.struct fs)→fs.toList.map (fun f=>(Tryz.prog.info? f.type).map (·.size))=([1,1,1]:List Nat).map some:=by
 intro fs h
 rw [Tryz.underlying24] at h
 cases h
 kernel_rfl
theorem pX:(Tryz.prog.info? 24).bind (·.zero)=some (.agg #[.bool false,.string ByteArray.empty,.string ByteArray.empty]):=by kernel_rfl
instance iAG24:AA Tryz.prog 24 3:=⟨by kernel_rfl⟩
instance iFO28_3:FO Tryz.prog 28 3 5:=⟨by kernel_rfl⟩
instance iAG4:AS Tryz.prog 4:=⟨by kernel_rfl⟩
instance iFO28_5:FO Tryz.prog 28 5 7:=⟨by kernel_rfl⟩
theorem xt:(Tryz.prog.info? 35).map (·.size)=some 1:=by kernel_rfl
theorem FT:(Tryz.prog.info? 4).bind (·.zero)=some (.bool false):=by kernel_rfl
instance iUD5:UD Tryz.prog 5 (.int .u8):=⟨Tryz.underlying5⟩
instance iUD21:UD Tryz.prog 21 (.int .i32):=⟨Tryz.underlying21⟩
theorem Dy:(Tryz.prog.info? 5).map (·.size)=some 1:=by kernel_rfl
instance iUD3:UD Tryz.prog 3 (.int .i64):=⟨Tryz.underlying3⟩
instance iAG91:AS Tryz.prog 91:=⟨by kernel_rfl⟩
instance iFO24_0:FO Tryz.prog 24 0 0:=⟨by kernel_rfl⟩
theorem Fp:(Tryz.prog.info? 42).bind (·.zero)=some (.int .i64 0):=by kernel_rfl
theorem Cs:(Tryz.prog.info? 3).bind (·.zero)=some (.int .i64 0):=by kernel_rfl
theorem Gt:(Tryz.prog.info? 5).bind (·.zero)=some (.int .u8 0):=by kernel_rfl
instance iAG42:AS Tryz.prog 42:=⟨by kernel_rfl⟩
instance iFO37_0:FO Tryz.prog 37 0 0:=⟨by kernel_rfl⟩
instance iAG35:AS Tryz.prog 35:=⟨by kernel_rfl⟩
instance iUD35:UD Tryz.prog 35 (.slice 47):=⟨Tryz.underlying35⟩
instance iLiT_Item:LenI ae.ienc 11:=⟨ae.ilen⟩
instance iSZ3:SZ Tryz.prog 3 1:=⟨by kernel_rfl⟩
theorem gj:(Tryz.prog.info? 47).map (·.size)=some 11:=by kernel_rfl
instance iFO47_0:FO Tryz.prog 47 0 0:=⟨by kernel_rfl⟩
instance iSZ47:SZ Tryz.prog 47 11:=⟨by kernel_rfl⟩
instance iFO47_2:FO Tryz.prog 47 2 9:=⟨by kernel_rfl⟩
instance iFO37_1:FO Tryz.prog 37 1 1:=⟨by kernel_rfl⟩
instance iFO37_2:FO Tryz.prog 37 2 2:=⟨by kernel_rfl⟩
instance iFO37_5:FO Tryz.prog 37 5 5:=⟨by kernel_rfl⟩
instance iFO37_4:FO Tryz.prog 37 4 4:=⟨by kernel_rfl⟩
instance iFO37_3:FO Tryz.prog 37 3 3:=⟨by kernel_rfl⟩
theorem Ej:∀ fs,Tryz.prog.underlying 47=some (.struct fs)→fs.toList.map (fun f=>(Tryz.prog.info? f.type).map (·.size))=([1,8,1,1]:List Nat).map some:=by
 intro fs h
 rw [Tryz.underlying47] at h
 cases h
 kernel_rfl
theorem nN:(Tryz.prog.info? 47).bind (·.zero)=some (.agg #[.int .i64 0,.bool false,.string ByteArray.empty,.string ByteArray.empty,.slice none 0 0,.slice none 0 0,.bool false,.string ByteArray.empty,.int .i64 0,.int .i64 0,.int .i64 0]):=by kernel_rfl
theorem BI:iN Tryz.prog 35 47 11 144:=⟨⟨Tryz.t47,.agg #[.int .i64 0,.bool false,.string ByteArray.empty,.string ByteArray.empty,.slice none 0 0,.slice none 0 0,.bool false,.string ByteArray.empty,.int .i64 0,.int .i64 0,.int .i64 0],Tryz.underlying35,by kernel_rfl,by kernel_rfl,by kernel_rfl,by kernel_rfl,by decide,by kernel_rfl⟩⟩
instance iAG47:AA Tryz.prog 47 11:=⟨by kernel_rfl⟩
instance iFO47_3:FO Tryz.prog 47 3 10:=⟨by kernel_rfl⟩
instance iUD51:UD Tryz.prog 51 (.int .u64):=⟨Tryz.underlying51⟩
theorem DZ:wR Tryz.prog 50 3:=xK Tryz.lays2_21
instance iFO47_1:FO Tryz.prog 47 1 1:=⟨by kernel_rfl⟩
theorem yY:∀ fs,Tryz.prog.underlying 31=some (.struct fs)→fs.toList.map (fun f=>(Tryz.prog.info? f.type).map (·.size))=([1,8,1,1,1,1,1,1]:List Nat).map some:=by
 intro fs h
 rw [Tryz.underlying31] at h
 cases h
 kernel_rfl
instance iSZ5:SZ Tryz.prog 5 1:=⟨by kernel_rfl⟩
instance iAG5:AS Tryz.prog 5:=⟨by kernel_rfl⟩
abbrev T_Rec.c (x:T_Rec) (r:List AV):List AV:=vi x.GQ::vb x.GS.GM.GT::vs x.GS.GM.GR::vs x.GS.GM.GJ :: .fl .shr 3 (flatten (map T_Path.enc x.GS.To))::fb x.GS.GH::vb x.GS.Ha::vs x.GS.GN::vi x.GS.At::vi x.Id::fi x.GO::vi x.GW::vi x.GU::vi x.GV::fb x.GI::r
abbrev ae.c (x:ae) (r:List AV):List AV:=vi x.Id::vb x.GS.GM.GT::vs x.GS.GM.GR::vs x.GS.GM.GJ :: .fl .shr 3 (flatten (map T_Path.enc x.GS.To))::fb x.GS.GH::vb x.GS.Ha::vs x.GS.GN::vi x.GS.At::vi x.Hc::vi x.GX::r
abbrev T_Mail.c (x:T_Mail) (r:List AV):List AV:=vb x.GM.GT::vs x.GM.GR::vs x.GM.GJ :: .fl .shr 3 (flatten (map T_Path.enc x.To))::fb x.GH::vb x.Ha::vs x.GN::vi x.At::r
abbrev ai.c (x:ai) (r:List AV):List AV := .fr .shr true 11 (flatten (map ae.ienc x.GP))::vi x.GY::fi x.Hb::fb x.GZ::vi x.Of::fi x.GK::r
theorem kR (l:(List T_Mail)) (r:Bool) (h:Sh.cH l=some r):cg Tryz.prog 20 [.fr .shr true 8 (flatten (map T_Mail.ienc l))] (.v (.bool r)):=by
 unfold Sh.cH at h
 refine yO 88 func20 fun g0 hn hio => ?_
 refine aZ hn 1 [0] ?_
 refine aj ?_
 refine aZ hn 3 [0,8] ?_
 refine zc h rfl (fun h => ?_) (fun h => ?_)
 refine aZ hn 1 [2] ?_
 refine aD (ay ?_)
 obtain rfl:=zi h
 exact aJ hio rfl (.tmp _ _ .nil) rfl rfl
 refine aE (ak ?_)
 refine aZ hn 1 [0,3] ?_
 refine aj ?_
 refine aZ hn 1 [0,3,4] ?_
 refine bp h (fun ((s66,s67):Int×Int)=>[(0,.fr .shr true 8 (flatten (map T_Mail.ienc l))),(3,vi s66),(4,vi s67)]) (fun (s85:Int)=>[(3,vi s85)]) ?_ ?_
 rintro s85 h
 refine ak ?_
 refine aZ hn 3 [2] ?_
 refine aD ?_
 obtain rfl:=zi h
 exact aJ hio rfl (.tmp _ _ .nil) rfl rfl
 rintro u86 hl87 hr88 ⟨s66,s67⟩ rr91 h ho89
 refine aj ?_
 refine aZ hn 4 [0,3,4,12] ?_
 refine zc h rfl (fun h => ?_) (fun h => ?_)
 refine aE ?_
 refine ak (aj ?_)
 refine aU (aj ?_)
 obtain ⟨v3,hv3,v4,hv4,v5,hv5,v6,hv6,h⟩:=pI h
 obtain ⟨v7,hv7,v8,hv8,v9,hv9,v10,hv10,h⟩:=pI h
 obtain ⟨v11,hv11,v12,hv12,v13,hv13,v14,hv14,h⟩:=pI h
 refine wb [[3],[0],[4]] ?_
 refine wN [16,17] ?_
 refine wo [[18,16]] ⟨lI hv3⟩ ?_
 refine wN [19,16] ?_
 refine wS (fb v4.GH) [[20]] ⟨bA _ _ _ _ _ _ _ underlying26 rfl rfl rfl (aL T_Mail.ilen hv4 rfl) (.fl _ _ rfl)⟩ ?_
 refine wN [15,21] ?_
 refine wo [[0],[4]] ⟨lb hv5⟩ ?_
 refine wN [23,24] ?_
 refine wo [[25,23]] ⟨lI hv6⟩ ?_
 refine wN [26,23] ?_
 refine wS (vs v7.GN) [[27]] ⟨bA _ _ _ _ _ _ _ underlying9 rfl rfl rfl (aL T_Mail.ilen hv7 rfl) (.v _)⟩ ?_
 refine wN [22,28] ?_
 refine wo [[0],[4]] ⟨lb hv8⟩ ?_
 refine wN [30,31] ?_
 refine wo [[32,30],[33,30]] ⟨lI hv9⟩ ?_
 refine wN [34,30] ?_
 refine wS (vs v10.GM.GR) [[35]] ⟨bA _ _ _ _ _ _ _ underlying9 rfl rfl rfl (aL (j:=1) T_Mail.ilen hv10 rfl) (.v _)⟩ ?_
 refine wN [29,36] ?_
 refine wo [[0],[4]] ⟨lb hv11⟩ ?_
 refine wN [38,39] ?_
 refine wo [[40,38],[41,38]] ⟨lI hv12⟩ ?_
 refine wN [42,38] ?_
 refine wS (vs v13.GM.GJ) [[43]] ⟨bA _ _ _ _ _ _ _ underlying9 rfl rfl rfl (aL (j:=2) T_Mail.ilen hv13 rfl) (.v _)⟩ ?_
 refine wN [37,44] ?_
 refine wo [] ⟨lb hv14⟩ ?_
 refine wK [3] [45] ?_
 refine wt [(3,vi v14)] [] ⟨aY.drop [_] (gv _ _ _ _ rfl rfl)⟩ ?_
 refine ue hn [0,4,3] ?_
 refine aj (aj ?_)
 obtain ⟨v15,hv15,v16,hv16,h⟩:=ii h
 refine yx hn 2 ?_
 refine ys 1 ⟨lI hv15⟩ ?_
 refine yS (.fl .shr 3 (flatten (map T_Path.enc v16.To))) 2 ⟨bA _ _ _ _ _ _ _ underlying25 rfl rfl rfl (aL T_Mail.ilen hv16 rfl) (.fl _ _ rfl)⟩ ?_
 refine cN [0,4,3,52] ?_
 refine zc h rfl (fun h => ?_) (fun h => ?_)
 refine aZ hn 1 [2] ?_
 refine aD (ay (aV (ay (ay (aV (ay ?_))))))
 have h:=hr88 _ (ho89 _ (zi h).symm).symm
 obtain rfl:=zi h
 exact aJ hio rfl (.tmp _ _ .nil) rfl rfl
 refine aE (ak ?_)
 refine aZ hn 1 [0,4,3,5] ?_
 refine bp h (fun ((s98,s99):Int×Int)=>[(0,.fr .shr true 8 (flatten (map T_Mail.ienc l))),(4,vi s67),(3,vi s98),(5,vi s99)]) (fun (s101:Int)=>[(0,.fr .shr true 8 (flatten (map T_Mail.ienc l))),(4,vi s67),(3,vi s101)]) ?_ ?_
 rintro s101 h
 refine aT (ak ?_)
 obtain ⟨v46,hv46,h⟩:=zn h
 refine yx hn 1 ?_
 refine ys 0 ⟨lb hv46⟩ ?_
 refine yw [4] 1 ?_
 refine ye [0,3,4] ?_
 exact bH _ (zi h).symm rfl
 rintro u102 hl103 hr104 ⟨s98,s99⟩ rr107 h ho105
 refine aj (aj ?_)
 obtain ⟨v18,sZ,v19,hv19,h⟩:=ii h
 refine yx hn 3 ?_
 refine ys 1 ⟨lI sZ⟩ ?_
 refine yS (.fl .shr 3 (flatten (map T_Path.enc v19.To))) 2 ⟨bA _ _ _ _ _ _ _ underlying25 rfl rfl rfl (aL T_Mail.ilen hv19 rfl) (.fl _ _ rfl)⟩ ?_
 refine cN [0,4,3,5,60] ?_
 refine zc h rfl (fun h => ?_) (fun h => ?_)
 refine aE ?_
 refine ak (aj ?_)
 refine aU ?_
 obtain ⟨v21,hv21,v22,hv22,v23,hv23,v24,hv24,h⟩:=pI h
 obtain ⟨v25,hv25,v26,hv26,v27,hv27,v28,hv28,h⟩:=pI h
 obtain ⟨v29,hv29,v30,hv30,h⟩:=ii h
 refine wb [[3],[0],[4]] ?_
 refine wN [64,65] ?_
 refine wo [[66,64]] ⟨lI hv21⟩ ?_
 refine wN [67,64] ?_
 refine wS (.fl .shr 3 (flatten (map T_Path.enc v22.To))) [[5]] ⟨bA _ _ _ _ _ _ _ underlying25 rfl rfl rfl (aL T_Mail.ilen hv22 rfl) (.fl _ _ rfl)⟩ ?_
 refine wN [68,69] ?_
 refine wo [[70,68]] ⟨lj hv23⟩ ?_
 refine wN [71,68] ?_
 refine wo [[72]] ⟨lL hv24⟩ ?_
 refine wN [63,73] ?_
 refine wo [[0],[4]] ⟨lb hv25⟩ ?_
 refine wN [75,76] ?_
 refine wo [[77,75]] ⟨lI hv26⟩ ?_
 refine wN [78,75] ?_
 refine wS (.fl .shr 3 (flatten (map T_Path.enc v27.To))) [[5]] ⟨bA _ _ _ _ _ _ _ underlying25 rfl rfl rfl (aL T_Mail.ilen hv27 rfl) (.fl _ _ rfl)⟩ ?_
 refine wN [79,80] ?_
 refine wo [[81,79]] ⟨lj hv28⟩ ?_
 refine wN [82,79] ?_
 refine wo [[83]] ⟨lL hv29⟩ ?_
 refine wN [74,84] ?_
 refine wo [] ⟨lb hv30⟩ ?_
 refine wK [3] [85] ?_
 refine wt [(3,vi v30)] [] ⟨aY.drop [_] (gv _ _ _ _ rfl rfl)⟩ ?_
 refine we hn [0,4,5,3] ?_
 refine aT (ak ?_)
 obtain ⟨v31,hv31,h⟩:=zn h
 refine yx hn 1 ?_
 refine ys 0 ⟨lb hv31⟩ ?_
 refine yw [5] 1 ?_
 refine ye [0,4,3,5] ?_
 exact bH _ (zi h).symm rfl
 refine bF (aH (aH (bG ?_)))
 refine aB [0,1,2] (by kernel_rfl) (es':=[(_,_),(_,_),(_,_)]) rfl ?_
 exact hl103 _ (ho105 _ (zi h).symm).symm
 refine bF (aH (aH (bG ?_)))
 refine aB [1] (by kernel_rfl) (es':=[(_,_)]) rfl ?_
 exact hl87 _ (ho89 _ (zi h).symm).symm
theorem fI (l:(List T_Rec)) (r:Bool) (h:Sh.cr l=some r):cg Tryz.prog 6 [.fr .shr true 15 (flatten (map T_Rec.ienc l))] (.v (.bool r)):=by
 unfold Sh.cr at h
 refine yO 38 func6 fun g0 hn hio => ?_
 refine aZ hn 1 [0] ?_
 refine aj ?_
 refine aZ hn 3 [0,6] ?_
 refine zc h rfl (fun h => ?_) (fun h => ?_)
 refine aZ hn 1 [2] ?_
 refine aD (ay ?_)
 obtain rfl:=zi h
 exact aJ hio rfl (.tmp _ _ .nil) rfl rfl
 refine aE ?_
 refine ak (aj ?_)
 refine aZ hn 1 [0,3] ?_
 refine bp h (fun (s23:Int)=>[(0,.fr .shr true 15 (flatten (map T_Rec.ienc l))),(3,vi s23)]) (fun (():Unit)=>[]) ?_ ?_
 rintro ⟨⟩ h
 refine ak ?_
 refine aZ hn 1 [2] ?_
 refine aD ?_
 obtain rfl:=zi h
 exact aJ hio rfl (.tmp _ _ .nil) rfl rfl
 rintro u30 hl31 hr32 s23 rr35 h ho33
 refine aj ?_
 refine aZ hn 4 [0,3,10] ?_
 refine zc h rfl (fun h => ?_) (fun h => ?_)
 refine aE ?_
 refine ak (aj ?_)
 refine aU (aj ?_)
 refine aK h (fun (s37:Bool)=>[(0,.fr .shr true 15 (flatten (map T_Rec.ienc l))),(3,vi s23),(37,vb s37)]) ?_ ?_
 rintro s37 h
 refine ak ?_
 refine zc h rfl (fun h => ?_) (fun h => ?_)
 refine aZ hn 1 [2] ?_
 refine aD (aV (ay (ay (aV (ay ?_)))))
 have h:=hr32 _ (ho33 _ (zi h).symm).symm
 obtain rfl:=zi h
 exact aJ hio rfl (.tmp _ _ .nil) rfl rfl
 refine aE (aT (ak ?_))
 obtain ⟨v15,hv15,h⟩:=zn h
 refine yx hn 1 ?_
 refine ys 0 ⟨lb hv15⟩ ?_
 refine yw [3] 1 ?_
 refine ye [0,3] ?_
 exact bH _ (zi h).symm rfl
 intro u38 h hl39 hr40
 obtain ⟨v3,hv3,v4,hv4,h⟩:=ii h
 refine ao h (fun hg6_7 h => ?_) (fun hg6_7 h => ?_)
 refine yx hn 2 ?_
 refine ys 1 ⟨lI hv3⟩ ?_
 refine yS (fb v4.GI) 3 ⟨bA _ _ _ _ _ _ _ underlying26 rfl rfl rfl (aL T_Rec.ilen hv4 rfl) (.fl _ _ rfl)⟩ ?_
 refine yd hg6_7 17 ?_
 refine ye [0,3,37] ?_
 exact hl39 _ (zi h).symm
 obtain ⟨v5,hv5,v6,hv6,h⟩:=ii h
 refine ao h (fun hg6_16 h => ?_) (fun hg6_16 h => ?_)
 refine yx hn 2 ?_
 refine ys 1 ⟨lI hv3⟩ ?_
 refine yS (fb v4.GI) 3 ⟨bA _ _ _ _ _ _ _ underlying26 rfl rfl rfl (aL T_Rec.ilen hv4 rfl) (.fl _ _ rfl)⟩ ?_
 refine yd hg6_7 2 ?_
 refine ys 1 ⟨lI hv5⟩ ?_
 refine yS (fi v6.GO) 4 ⟨bA _ _ _ _ _ _ _ underlying29 rfl rfl rfl (aL T_Rec.ilen hv6 rfl) (.fl _ _ rfl)⟩ ?_
 refine yd hg6_16 8 ?_
 refine ye [0,3,37] ?_
 exact hl39 _ (zi h).symm
 obtain ⟨v7,hv7,v8,hv8,v9,hv9,h⟩:=pj h
 refine yx hn 2 ?_
 refine ys 1 ⟨lI hv3⟩ ?_
 refine yS (fb v4.GI) 3 ⟨bA _ _ _ _ _ _ _ underlying26 rfl rfl rfl (aL T_Rec.ilen hv4 rfl) (.fl _ _ rfl)⟩ ?_
 refine yd hg6_7 2 ?_
 refine ys 1 ⟨lI hv5⟩ ?_
 refine yS (fi v6.GO) 4 ⟨bA _ _ _ _ _ _ _ underlying29 rfl rfl rfl (aL T_Rec.ilen hv6 rfl) (.fl _ _ rfl)⟩ ?_
 refine yd hg6_16 2 ?_
 refine ys 1 ⟨lI hv7⟩ ?_
 refine yS (.agg (T_Mail.c v8.GS [])) 0 ⟨cJ _ _ _ _ _ _ _ _ underlying28 rfl ox rfl rfl (xF T_Rec.ilen hv8 (zl rfl) rfl) (.cons (.v _) (.cons (.v _) (.cons (.v _) (.cons (.fl _ _ rfl) (.cons (.fl _ _ rfl) (.cons (.v _) (.cons (.v _) (.cons (.v _) (.nil))))))))) rfl (by decide)⟩ ?_
 refine yS (.fr (.own 28) true 8 (flatten (map T_Mail.ienc [(T_Mail.mk (T_Path.mk v8.GS.GM.GT v8.GS.GM.GR v8.GS.GM.GJ) v8.GS.To v8.GS.GH v8.GS.Ha v8.GS.GN v8.GS.At)]))) 0 ⟨na _ _ _ 8 (.agg #[.bool false,.string ByteArray.empty,.string ByteArray.empty,.slice none 0 0,.slice none 0 0,.bool false,.string ByteArray.empty,.int .i64 0]) true _ _ underlying54 ox xo rfl rfl (.cons (.v _) (.cons (.v _) (.cons (.v _) (.cons (.shr _ _ rfl rfl) (.cons (.shr _ _ rfl rfl) (.cons (.v _) (.cons (.v _) (.cons (.v _) (.nil))))))))) rfl (by decide) (by decide)⟩ ?_
 refine ys 1 ⟨lk call20 (kR _ _ hv9)⟩ ?_
 refine ye [0,3,37] ?_
 exact hl39 _ (zi h).symm
 refine bF (aH (aH (bG ?_)))
 refine aB [] (by kernel_rfl) (es':=[]) rfl ?_
 exact hl31 _ (ho33 _ (zi h).symm).symm
theorem jZ (l:(List T_Path)) (r:(List T_Path)) (h:Sh.ev l=some r):cg Tryz.prog 39 [.fl .shr 3 (flatten (map T_Path.enc l))] (.fl (.own 24) 3 (flatten (map T_Path.enc r))):=by
 unfold Sh.ev at h
 refine yO 7 func39 fun g0 hn hio => ?_
 refine aZ hn 1 [0] ?_
 refine aZ hn 1 [0,3] ?_
 refine aj ?_
 obtain ⟨v1,hv1,h⟩:=zn h
 refine yx hn 2 ?_
 refine yS (.fl (.own 24) 3 (flatten (map T_Path.enc v1))) 0 ⟨gP _ _ _ _ DD rfl rfl (nj T_Path.len _) hv1 (congrArg (fun l=>flatten (map _ l)) (gY hv1))⟩ ?_
 refine ya 0 ?_
 refine cN [2] ?_
 refine aD ?_
 obtain rfl:=zi h
 exact aJ hio rfl (.tmp _ _ .nil) rfl rfl
theorem eY (l:(List Int)) (r:(List Int)) (h:Sh.dk l=some r):cg Tryz.prog 23 [.fl .shr 1 (map (int .u8) l)] (.fl (.own 5) 1 (map (int .u8) r)):=by
 unfold Sh.dk at h
 refine yO 7 func23 fun g0 hn hio => ?_
 refine aZ hn 1 [0] ?_
 refine aZ hn 1 [0,3] ?_
 refine aj ?_
 obtain ⟨v1,hv1,h⟩:=zn h
 refine yx hn 2 ?_
 refine yS (.fl (.own 5) 1 (map (int .u8) v1)) 0 ⟨gP _ _ _ _ Aj rfl rfl (fe _) hv1 (congrArg (map _) (gY hv1))⟩ ?_
 refine ya 0 ?_
 refine cN [2] ?_
 refine aD ?_
 obtain rfl:=zi h
 exact aJ hio rfl (.tmp _ _ .nil) rfl rfl
theorem fg (m:T_Mail) (r:T_Mail) (h:Sh.cp m=some r):cg Tryz.prog 21 [.agg [.v (.bool m.GM.GT),.v (.string m.GM.GR),.v (.string m.GM.GJ),.fl .shr 3 (flatten (map T_Path.enc m.To)),.fl .shr 1 (map (int .u8) m.GH),.v (.bool m.Ha),.v (.string m.GN),.v (.int .i64 m.At)]] (.agg [.v (.bool r.GM.GT),.v (.string r.GM.GR),.v (.string r.GM.GJ),.fl (.own 24) 3 (flatten (map T_Path.enc r.To)),.fl (.own 5) 1 (map (int .u8) r.GH),.v (.bool r.Ha),.v (.string r.GN),.v (.int .i64 r.At)]):=by
 unfold Sh.cp at h
 refine yO 12 func21 fun g0 hn hio => ?_
 refine iJ hn 1 ?_
 refine yS (.box 28 [vb false,vs z0,vs z0,vz,vz,vb false,vs z0,vi 0]) 0 ⟨oA (bj _ _ xo)⟩ ?_
 refine cN [1,2] ?_
 refine aj ?_
 obtain ⟨v1,hv1,v2,hv2,h⟩:=ii h
 refine wb [[1],[3,1]] ?_
 refine wN [4] ?_
 refine wo [[1],[6,1]] ⟨lk call39 (jZ _ _ hv1)⟩ ?_
 refine wN [7] ?_
 refine wo [[1]] ⟨lk call23 (eY _ _ hv2)⟩ ?_
 refine wK [5,1] [9] ?_
 refine wt [(1,.box 28 [vb m.GM.GT,vs m.GM.GR,vs m.GM.GJ,.fl (.own 24) 3 (flatten (map T_Path.enc v1)),fb m.GH,vb m.Ha,vs m.GN,vi m.At])] [[1]] ⟨aC _ _ _ _ _ _ _ _ DJ rfl rfl rfl (zl rfl) rfl rfl⟩ ?_
 refine wK [8,1] [10] ?_
 refine wt [(1,.box 28 [vb m.GM.GT,vs m.GM.GR,vs m.GM.GJ,.fl (.own 24) 3 (flatten (map T_Path.enc v1)),.fl (.own 5) 1 (map (int .u8) v2),vb m.Ha,vs m.GN,vi m.At])] [] ⟨aC _ _ _ _ _ _ _ _ tw rfl rfl rfl (zl rfl) rfl rfl⟩ ?_
 refine ue hn [1,2] ?_
 refine iJ hn 0 ?_
 refine yk [1] [] ?_
 refine yt (11,.agg [vb m.GM.GT,vs m.GM.GR,vs m.GM.GJ,.fl (.own 24) 3 (flatten (map T_Path.enc v1)),.fl (.own 5) 1 (map (int .u8) v2),vb m.Ha,vs m.GN,vi m.At]) 0 ⟨aW _ _ _ _ underlying28 rfl ox rfl rfl⟩ ?_
 refine yk [11,2] [] ?_
 refine yt (2,.box 28 [vb m.GM.GT,vs m.GM.GR,vs m.GM.GJ,.fl (.own 24) 3 (flatten (map T_Path.enc v1)),.fl (.own 5) 1 (map (int .u8) v2),vb m.Ha,vs m.GN,vi m.At]) 0 ⟨aC _ _ _ _ _ _ _ _ ox rfl rfl rfl (zl rfl) rfl rfl⟩ ?_
 refine cN [2] ?_
 refine aD ?_
 obtain rfl:=zi h
 exact aJ hio rfl (.cellA _ _ _ _ underlying28 rfl ox .nil) rfl rfl
theorem ff (l:(List Int)) (r:(List Int)) (h:Sh.df l=some r):cg Tryz.prog 22 [.fl .shr 1 (map (int .i64) l)] (.fl (.own 3) 1 (map (int .i64) r)):=by
 unfold Sh.df at h
 refine yO 7 func22 fun g0 hn hio => ?_
 refine aZ hn 1 [0] ?_
 refine aZ hn 1 [0,3] ?_
 refine aj ?_
 obtain ⟨v1,hv1,h⟩:=zn h
 refine yx hn 2 ?_
 refine yS (.fl (.own 3) 1 (map (int .i64) v1)) 0 ⟨gP _ _ _ _ vI rfl rfl (fe _) hv1 (congrArg (map _) (gY hv1))⟩ ?_
 refine ya 0 ?_
 refine cN [2] ?_
 refine aD ?_
 obtain rfl:=zi h
 exact aJ hio rfl (.tmp _ _ .nil) rfl rfl
theorem fo (p_r:T_Rec) (r:T_Rec) (h:Sh.cj p_r=some r):cg Tryz.prog 8 [.agg [.v (.int .i64 p_r.GQ),.v (.bool p_r.GS.GM.GT),.v (.string p_r.GS.GM.GR),.v (.string p_r.GS.GM.GJ),.fl .shr 3 (flatten (map T_Path.enc p_r.GS.To)),.fl .shr 1 (map (int .u8) p_r.GS.GH),.v (.bool p_r.GS.Ha),.v (.string p_r.GS.GN),.v (.int .i64 p_r.GS.At),.v (.int .i64 p_r.Id),.fl .shr 1 (map (int .i64) p_r.GO),.v (.int .i64 p_r.GW),.v (.int .i64 p_r.GU),.v (.int .i64 p_r.GV),.fl .shr 1 (map (int .u8) p_r.GI)]] (.agg [.v (.int .i64 r.GQ),.v (.bool r.GS.GM.GT),.v (.string r.GS.GM.GR),.v (.string r.GS.GM.GJ),.fl (.own 24) 3 (flatten (map T_Path.enc r.GS.To)),.fl (.own 5) 1 (map (int .u8) r.GS.GH),.v (.bool r.GS.Ha),.v (.string r.GS.GN),.v (.int .i64 r.GS.At),.v (.int .i64 r.Id),.fl (.own 3) 1 (map (int .i64) r.GO),.v (.int .i64 r.GW),.v (.int .i64 r.GU),.v (.int .i64 r.GV),.fl (.own 5) 1 (map (int .u8) r.GI)]):=by
 unfold Sh.cj at h
 refine yO 16 func8 fun g0 hn hio => ?_
 refine iJ hn 1 ?_
 refine yS (.box 31 [vi 0,vb false,vs z0,vs z0,vz,vz,vb false,vs z0,vi 0,vi 0,vz,vi 0,vi 0,vi 0,vz]) 0 ⟨oA (bj _ _ kq)⟩ ?_
 refine cN [1,2] ?_
 refine aj ?_
 obtain ⟨v1,hv1,v2,hv2,v3,hv3,h⟩:=pj h
 refine wb [[1],[3,1]] ?_
 refine wN [4] ?_
 refine wo [[1],[6,1]] ⟨lk call21 (fg _ _ hv1)⟩ ?_
 refine wN [7] ?_
 refine wo [[1],[9,1]] ⟨lk call22 (ff _ _ hv2)⟩ ?_
 refine wN [10] ?_
 refine wo [[1]] ⟨lk call23 (eY _ _ hv3)⟩ ?_
 refine wK [5,1] [12] ?_
 refine wt [(1,.box 31 [vi p_r.GQ,vb v1.GM.GT,vs v1.GM.GR,vs v1.GM.GJ,.fl (.own 24) 3 (flatten (map T_Path.enc v1.To)),.fl (.own 5) 1 (map (int .u8) v1.GH),vb v1.Ha,vs v1.GN,vi v1.At,vi p_r.Id,fi p_r.GO,vi p_r.GW,vi p_r.GU,vi p_r.GV,fb p_r.GI])] [[1]] ⟨aC _ _ _ _ _ _ _ _ ox rfl rfl rfl (zl rfl) rfl rfl⟩ ?_
 refine wK [8,1] [13] ?_
 refine wt [(1,.box 31 [vi p_r.GQ,vb v1.GM.GT,vs v1.GM.GR,vs v1.GM.GJ,.fl (.own 24) 3 (flatten (map T_Path.enc v1.To)),.fl (.own 5) 1 (map (int .u8) v1.GH),vb v1.Ha,vs v1.GN,vi v1.At,vi p_r.Id,.fl (.own 3) 1 (map (int .i64) v2),vi p_r.GW,vi p_r.GU,vi p_r.GV,fb p_r.GI])] [[1]] ⟨aC _ _ _ _ _ _ _ _ qt rfl rfl rfl (zl rfl) rfl rfl⟩ ?_
 refine wK [11,1] [14] ?_
 refine wt [(1,.box 31 [vi p_r.GQ,vb v1.GM.GT,vs v1.GM.GR,vs v1.GM.GJ,.fl (.own 24) 3 (flatten (map T_Path.enc v1.To)),.fl (.own 5) 1 (map (int .u8) v1.GH),vb v1.Ha,vs v1.GN,vi v1.At,vi p_r.Id,.fl (.own 3) 1 (map (int .i64) v2),vi p_r.GW,vi p_r.GU,vi p_r.GV,.fl (.own 5) 1 (map (int .u8) v3)])] [] ⟨aC _ _ _ _ _ _ _ _ tw rfl rfl rfl (zl rfl) rfl rfl⟩ ?_
 refine ue hn [1,2] ?_
 refine iJ hn 0 ?_
 refine yk [1] [] ?_
 refine yt (15,.agg [vi p_r.GQ,vb v1.GM.GT,vs v1.GM.GR,vs v1.GM.GJ,.fl (.own 24) 3 (flatten (map T_Path.enc v1.To)),.fl (.own 5) 1 (map (int .u8) v1.GH),vb v1.Ha,vs v1.GN,vi v1.At,vi p_r.Id,.fl (.own 3) 1 (map (int .i64) v2),vi p_r.GW,vi p_r.GU,vi p_r.GV,.fl (.own 5) 1 (map (int .u8) v3)]) 0 ⟨aW _ _ _ _ underlying31 rfl gN rfl rfl⟩ ?_
 refine yk [15,2] [] ?_
 refine yt (2,.box 31 [vi p_r.GQ,vb v1.GM.GT,vs v1.GM.GR,vs v1.GM.GJ,.fl (.own 24) 3 (flatten (map T_Path.enc v1.To)),.fl (.own 5) 1 (map (int .u8) v1.GH),vb v1.Ha,vs v1.GN,vi v1.At,vi p_r.Id,.fl (.own 3) 1 (map (int .i64) v2),vi p_r.GW,vi p_r.GU,vi p_r.GV,.fl (.own 5) 1 (map (int .u8) v3)]) 0 ⟨aC _ _ _ _ _ _ _ _ gN rfl rfl rfl (zl rfl) rfl rfl⟩ ?_
 refine cN [2] ?_
 refine aD ?_
 obtain rfl:=zi h
 exact aJ hio rfl (.cellA _ _ _ _ underlying31 rfl gN .nil) rfl rfl
theorem kE (l:(List T_Rec)) (r:(List T_Rec)) (h:Sh.dU l=some r):cg Tryz.prog 7 [.fr .shr true 15 (flatten (map T_Rec.ienc l))] (.fr (.own 31) false 15 (flatten (map T_Rec.ienc r))):=by
 unfold Sh.dU at h
 refine yO 20 func7 fun g0 hn hio => ?_
 refine aZ hn 1 [0] ?_
 refine aZ hn 1 [0,3] ?_
 refine aj ?_
 refine aZ hn 1 [0,3,4] ?_
 refine nM (fs:=[(0,.fr .shr true 15 (flatten (map T_Rec.ienc l))),(3,.fr (.own 31) false 15 (flatten (map T_Rec.ienc []))),(4,vi 0)]) (.same _ (.sub _ (ij 31 false 15) rfl (.same _ .nil))) ?_
 refine bp h (fun ((s10,s11):(List T_Rec)×Int)=>[(0,.fr .shr true 15 (flatten (map T_Rec.ienc l))),(3,.fr (.own 31) false 15 (flatten (map T_Rec.ienc s10))),(4,vi s11)]) (fun (s13:(List T_Rec))=>[(3,.fr (.own 31) false 15 (flatten (map T_Rec.ienc s13)))]) ?_ ?_
 rintro s13 h
 refine ak ?_
 refine iJ hn 0 ?_
 refine ym 0 ?_
 refine ya 0 ?_
 refine cN [2] ?_
 refine aD ?_
 obtain rfl:=zi h
 exact aJ hio rfl (.tmp _ _ .nil) rfl rfl
 rintro u14 hl15 hr16 ⟨s10,s11⟩ rr19 h ho17
 refine aj ?_
 refine aZ hn 4 [0,3,4,8] ?_
 refine zc h rfl (fun h => ?_) (fun h => ?_)
 refine aE ?_
 refine ak (aj ?_)
 refine aU ?_
 obtain ⟨v2,hv2,v3,hv3,v4,hv4,v5,hv5,h⟩:=pI h
 refine yx hn 0 ?_
 refine ym 2 ?_
 refine ys 0 ⟨lI hv2⟩ ?_
 refine yS (.agg (T_Rec.c v3 [])) 0 ⟨cJ _ _ _ _ _ _ _ _ underlying31 rfl gN rfl rfl (dx T_Rec.ilen hv3) (.cons (.v _) (.cons (.v _) (.cons (.v _) (.cons (.v _) (.cons (.fl _ _ rfl) (.cons (.fl _ _ rfl) (.cons (.v _) (.cons (.v _) (.cons (.v _) (.cons (.v _) (.cons (.fl _ _ rfl) (.cons (.v _) (.cons (.v _) (.cons (.v _) (.cons (.fl _ _ rfl) (.nil)))))))))))))))) rfl (by decide)⟩ ?_
 refine ys 0 ⟨lk call8 (fo _ _ hv4)⟩ ?_
 refine yk [16] [] ?_
 refine yt (17,.fr (.own 31) false 15 (flatten (map T_Rec.ienc [(T_Rec.mk v4.GQ ((T_Mail.mk (T_Path.mk v4.GS.GM.GT v4.GS.GM.GR v4.GS.GM.GJ) v4.GS.To v4.GS.GH v4.GS.Ha v4.GS.GN v4.GS.At)) v4.Id v4.GO v4.GW v4.GU v4.GV v4.GI)]))) 0 ⟨eD _ _ _ 15 (.agg #[.int .i64 0,.bool false,.string ByteArray.empty,.string ByteArray.empty,.slice none 0 0,.slice none 0 0,.bool false,.string ByteArray.empty,.int .i64 0,.int .i64 0,.slice none 0 0,.int .i64 0,.int .i64 0,.int .i64 0,.slice none 0 0]) false _ _ underlying22 gN kq rfl (.cons (.v _) (.cons (.v _) (.cons (.v _) (.cons (.v _) (.cons (.ro _ _ rfl) (.cons (.ro _ _ rfl) (.cons (.v _) (.cons (.v _) (.cons (.v _) (.cons (.v _) (.cons (.ro _ _ rfl) (.cons (.v _) (.cons (.v _) (.cons (.v _) (.cons (.ro _ _ rfl) (.nil)))))))))))))))) rfl (by decide) (by decide)⟩ ?_
 refine yk [11] [17] ?_
 refine wZ (11,.any) (18,.fr (.own 31) false 15 (flatten (map T_Rec.ienc v5))) 0 ⟨nE _ _ _ _ _ CV rfl rfl (bT T_Rec.ilen _) (bT T_Rec.ilen _) hv5 (im (iq hv5)) (by decide) (by decide)⟩ ?_
 refine ya 0 ?_
 refine ye [0,4,3] ?_
 refine aT (ak ?_)
 obtain ⟨v6,hv6,h⟩:=zn h
 refine yx hn 1 ?_
 refine ys 0 ⟨lb hv6⟩ ?_
 refine yw [4] 1 ?_
 refine ye [0,3,4] ?_
 exact bH _ (zi h).symm rfl
 refine bF (aH (aH (bG ?_)))
 refine aB [1] (by kernel_rfl) (es':=[(_,_)]) rfl ?_
 exact hl15 _ (ho17 _ (zi h).symm).symm
theorem mX (r:ai) (h:Sh.lN  = some r):cg Tryz.prog 24 [] (.agg [.hid (bu 47 11 (flatten (map bD r.GP))),.v (.int .i64 r.GY),.fl (.own 3) 1 (map (int .i64) r.Hb),.fl (.own 5) 1 (map (int .u8) r.GZ),.v (.int .i64 r.Of),.fl (.own 3) 1 (map (int .i64) r.GK)]):=by
 unfold Sh.lN at h
 refine yO 2 func24 fun g0 hn hio => ?_
 refine iJ hn 0 ?_
 refine yS (.box 37 [vz,vi 0,vz,vz,vi 0,vz]) 0 ⟨oA (bj _ _ iF)⟩ ?_
 refine cN [0] ?_
 refine iJ hn 0 ?_
 refine yS (.agg [vz,vi 0,vz,vz,vi (-1),vz]) 1 ⟨cw _ _ _ _ [1,1,1,1,1,1] _ _ underlying37 iF (zO _ underlying37) (.copy _ mJ.nil) rfl rfl rfl⟩ ?_
 refine cN [0] ?_
 refine aD ?_
 refine eW (fs:=[(0,.box 37 [.hid (bu 47 11 (flatten (map bD []))),vi 0,.fl (.own 3) 1 (map (int .i64) []),.fl (.own 5) 1 (map (int .u8) []),vi (-1),.fl (.own 3) 1 (map (int .i64) [])])]) (.box _ _ (ag (mD 47 11 bD) (ag (am _) (ag (dA 3 1) (ag (dA 5 1) (ag (am _) (ag (dA 3 1) (cz))))))) rfl .nil) ?_
 obtain rfl:=zi h
 exact aJ hio rfl (.cellA _ _ _ _ underlying37 rfl dn .nil) rfl rfl
theorem nJ (p_r:T_Rec) (r:T_Rec) (h:Sh.cY p_r=some r):cg Tryz.prog 41 [.agg [.v (.int .i64 p_r.GQ),.v (.bool p_r.GS.GM.GT),.v (.string p_r.GS.GM.GR),.v (.string p_r.GS.GM.GJ),.fl .shr 3 (flatten (map T_Path.enc p_r.GS.To)),.fl .shr 1 (map (int .u8) p_r.GS.GH),.v (.bool p_r.GS.Ha),.v (.string p_r.GS.GN),.v (.int .i64 p_r.GS.At),.v (.int .i64 p_r.Id),.fl .shr 1 (map (int .i64) p_r.GO),.v (.int .i64 p_r.GW),.v (.int .i64 p_r.GU),.v (.int .i64 p_r.GV),.fl .shr 1 (map (int .u8) p_r.GI)]] (.agg [.v (.int .i64 r.GQ),.v (.bool r.GS.GM.GT),.v (.string r.GS.GM.GR),.v (.string r.GS.GM.GJ),.fl .shr 3 (flatten (map T_Path.enc r.GS.To)),.fl .shr 1 (map (int .u8) r.GS.GH),.v (.bool r.GS.Ha),.v (.string r.GS.GN),.v (.int .i64 r.GS.At),.v (.int .i64 r.Id),.fl .shr 1 (map (int .i64) r.GO),.v (.int .i64 r.GW),.v (.int .i64 r.GU),.v (.int .i64 r.GV),.fl .shr 1 (map (int .u8) r.GI)]):=by
 unfold Sh.cY at h
 refine yO 29 func41 fun g0 hn hio => ?_
 refine iJ hn 1 ?_
 refine yS (.box 31 [vi 0,vb false,vs z0,vs z0,vz,vz,vb false,vs z0,vi 0,vi 0,vz,vi 0,vi 0,vi 0,vz]) 0 ⟨oA (bj _ _ kq)⟩ ?_
 refine cN [1,2] ?_
 refine aj ?_
 refine aK h (fun ((s40,s41,s42,s43,s44,s45,s46,s47,s48,s49,s50,s51,s52,s53):Bool×Hd×Hd×(List T_Path)×(List Int)×Bool×Hd×Int×Int×(List Int)×Int×Int×Int×(List Int))=>[(1,.box 31 [vi p_r.GQ,vb s40,vs s41,vs s42,.fl .shr 3 (flatten (map T_Path.enc s43)),fb s44,vb s45,vs s46,vi s47,vi s48,fi s49,vi s50,vi s51,vi s52,fb s53]),(2,.box 31 [vi 0,vb false,vs z0,vs z0,vz,vz,vb false,vs z0,vi 0,vi 0,vz,vi 0,vi 0,vi 0,vz])]) ?_ ?_
 rintro ⟨s40,s41,s42,s43,s44,s45,s46,s47,s48,s49,s50,s51,s52,s53⟩ h
 refine ak ?_
 refine aZ hn 2 [1,2] ?_
 refine aZ hn 2 [2] ?_
 refine aD ?_
 obtain rfl:=zi h
 exact aJ hio rfl (.cellA _ _ _ _ underlying31 rfl gN .nil) rfl rfl
 intro u54 h hl55 hr56
 refine aZ hn 2 [1,2,4] ?_
 refine aK h (fun ((s68,s69,s70,s71,s72,s73,s74,s75,s76,s77,s78,s79,s80,s81):Bool×Hd×Hd×(List T_Path)×(List Int)×Bool×Hd×Int×Int×(List Int)×Int×Int×Int×(List Int))=>[(1,.box 31 [vi p_r.GQ,vb s68,vs s69,vs s70,.fl .shr 3 (flatten (map T_Path.enc s71)),fb s72,vb s73,vs s74,vi s75,vi s76,fi s77,vi s78,vi s79,vi s80,fb s81]),(2,.box 31 [vi 0,vb false,vs z0,vs z0,vz,vz,vb false,vs z0,vi 0,vi 0,vz,vi 0,vi 0,vi 0,vz])]) ?_ ?_
 rintro ⟨s68,s69,s70,s71,s72,s73,s74,s75,s76,s77,s78,s79,s80,s81⟩ h
 exact hl55 _ (zi h).symm
 intro u82 h hl83 hr84
 refine aU ?_
 refine aZ hn 2 [1,2,4,5] ?_
 refine zc h rfl (fun h => ?_) (fun h => ?_)
 refine yx hn 0 ?_
 refine yS (.agg [vb false,vs z0,vs z0,vz,vz,vb false,vs z0,vi 0]) 6 ⟨cw _ _ _ _ [3,1,1,1,1,1] _ _ underlying28 xo (Et _ underlying28) mJ.nil rfl rfl rfl⟩ ?_
 refine ye [1,2] ?_
 refine aT ?_
 refine eW (fs:=[(1,.box 31 [vi p_r.GQ,vb false,vs z0,vs z0,.fl .shr 3 (flatten (map T_Path.enc [])),fb [],vb false,vs z0,vi 0,vi 0,fi p_r.GO,vi 0,vi p_r.GU,vi p_r.GV,fb p_r.GI]),(2,.box 31 [vi 0,vb false,vs z0,vs z0,vz,vz,vb false,vs z0,vi 0,vi 0,vz,vi 0,vi 0,vi 0,vz])]) (.box _ _ (ag (am _) (ag (am _) (ag (am _) (ag (am _) (ag (aS 3) (ag (aS 1) (ag (am _) (ag (am _) (ag (am _) (ag (am _) (ag (am _) (ag (am _) (ag (am _) (ag (am _) (ag (am _) (cz)))))))))))))))) rfl (.same _ .nil)) ?_
 exact hl83 _ (zi h).symm
 refine aZ hn 2 [1,2,4,11] ?_
 refine zc h rfl (fun h => ?_) (fun h => ?_)
 refine yy hn 4 [1,2] ?_
 refine aT ?_
 refine eW (fs:=[(1,.box 31 (vi p_r.GQ::T_Mail.c p_r.GS [vi p_r.Id,fi [],vi p_r.GW,vi 0,vi p_r.GV,fb p_r.GI])),(2,.box 31 [vi 0,vb false,vs z0,vs z0,vz,vz,vb false,vs z0,vi 0,vi 0,vz,vi 0,vi 0,vi 0,vz])]) (.box _ _ (ag (am _) (ag (am _) (ag (am _) (ag (am _) (ag (am _) (ag (am _) (ag (am _) (ag (am _) (ag (am _) (ag (am _) (ag (aS 1) (ag (am _) (ag (am _) (ag (am _) (ag (am _) (cz)))))))))))))))) rfl (.same _ .nil)) ?_
 exact hl83 _ (zi h).symm
 refine aj ?_
 refine aK h (fun (s88:Bool)=>[(1,.box 31 (T_Rec.c p_r [])),(2,.box 31 [vi 0,vb false,vs z0,vs z0,vz,vz,vb false,vs z0,vi 0,vi 0,vz,vi 0,vi 0,vi 0,vz]),(4,vi p_r.GQ),(15,vb s88)]) ?_ ?_
 rintro s88 h
 refine ak ?_
 refine zc h rfl (fun h => ?_) (fun h => ?_)
 refine yy hn 2 [1,2] ?_
 refine aT ?_
 exact hl83 _ (zi h).symm
 refine aZ hn 2 [1,2,4,19] ?_
 refine zc h rfl (fun h => ?_) (fun h => ?_)
 refine yy hn 2 [1,2] ?_
 refine aT ?_
 exact hl83 _ (zi h).symm
 refine aZ hn 2 [1,2,22] ?_
 refine zc h rfl (fun h => ?_) (fun h => ?_)
 refine yy hn 6 [1,2] ?_
 refine aT ?_
 refine eW (fs:=[(1,.box 31 (vi p_r.GQ::T_Mail.c p_r.GS [vi p_r.Id,fi p_r.GO,vi p_r.GW,vi 0,vi 0,fb []])),(2,.box 31 [vi 0,vb false,vs z0,vs z0,vz,vz,vb false,vs z0,vi 0,vi 0,vz,vi 0,vi 0,vi 0,vz])]) (.box _ _ (ag (am _) (ag (am _) (ag (am _) (ag (am _) (ag (am _) (ag (am _) (ag (am _) (ag (am _) (ag (am _) (ag (am _) (ag (am _) (ag (am _) (ag (am _) (ag (am _) (ag (aS 1) (cz)))))))))))))))) rfl (.same _ .nil)) ?_
 exact hl83 _ (zi h).symm
 refine aE (aT ?_)
 refine aB [0,1] (by kernel_rfl) (es':=[(_,_),(_,_)]) rfl ?_
 exact hl83 _ (zi h).symm
 intro u89 h hl90 hr91
 refine aZ hn 2 [1,2,4,15] ?_
 refine zc h rfl (fun h => ?_) (fun h => ?_)
 refine aE ?_
 exact hl90 _ (zi h).symm
 refine yx hn 1 ?_
 refine yw [15] 1 ?_
 refine ye [1,2,4,15] ?_
 exact hl90 _ (zi h).symm
theorem rn (p_r:T_Rec) (r:Bool) (h:Sh.dF p_r=some r):cg Tryz.prog 40 [.agg [.v (.int .i64 p_r.GQ),.v (.bool p_r.GS.GM.GT),.v (.string p_r.GS.GM.GR),.v (.string p_r.GS.GM.GJ),.fl .shr 3 (flatten (map T_Path.enc p_r.GS.To)),.fl .shr 1 (map (int .u8) p_r.GS.GH),.v (.bool p_r.GS.Ha),.v (.string p_r.GS.GN),.v (.int .i64 p_r.GS.At),.v (.int .i64 p_r.Id),.fl .shr 1 (map (int .i64) p_r.GO),.v (.int .i64 p_r.GW),.v (.int .i64 p_r.GU),.v (.int .i64 p_r.GV),.fl .shr 1 (map (int .u8) p_r.GI)]] (.v (.bool r)):=by
 unfold Sh.dF at h
 refine yO 76 func40 fun g0 hn hio => ?_
 refine aZ hn 2 [1] ?_
 refine iJ hn 2 ?_
 refine yS (.box 28 [vb false,vs z0,vs z0,vz,vz,vb false,vs z0,vi 0]) 1 ⟨oA (bj _ _ xo)⟩ ?_
 refine cN [1,3] ?_
 refine aj ?_
 refine aK h (fun (s1:Bool)=>[(1,.box 31 (T_Rec.c p_r [])),(4,vb s1)]) ?_ ?_
 rintro s1 h
 refine ak (aj ?_)
 refine aK h (fun (s5:Bool)=>[(2,vb s5)]) ?_ ?_
 rintro s5 h
 refine ak (aD ?_)
 obtain rfl:=zi h
 exact aJ hio rfl (.tmp _ _ .nil) rfl rfl
 intro u6 h hl7 hr8
 refine ao h (fun hg3_1 h => ?_) (fun hg3_1 h => ?_)
 refine ao h (fun hg3_6 h => ?_) (fun hg3_6 h => ?_)
 refine ao h (fun hg3_11 h => ?_) (fun hg3_11 h => ?_)
 refine ao h (fun hg3_17 h => ?_) (fun hg3_17 h => ?_)
 refine ao h (fun hg3_22 h => ?_) (fun hg3_22 h => ?_)
 refine ao h (fun hg3_27 h => ?_) (fun hg3_27 h => ?_)
 refine ao h (fun hg3_32 h => ?_) (fun hg3_32 h => ?_)
 refine yx hn 2 ?_
 refine yd hg3_1 5 ?_
 refine yd hg3_6 5 ?_
 refine yd hg3_11 6 ?_
 refine yd hg3_17 5 ?_
 refine yd hg3_22 5 ?_
 refine yd hg3_27 5 ?_
 refine yd hg3_32 6 ?_
 refine ye [2] ?_
 exact hl7 _ (zi h).symm
 refine yx hn 2 ?_
 refine yd hg3_1 5 ?_
 refine yd hg3_6 5 ?_
 refine yd hg3_11 6 ?_
 refine yd hg3_17 5 ?_
 refine yd hg3_22 5 ?_
 refine yd hg3_27 5 ?_
 refine yd hg3_32 6 ?_
 refine ye [2] ?_
 exact hl7 _ (zi h).symm
 refine yx hn 2 ?_
 refine yd hg3_1 5 ?_
 refine yd hg3_6 5 ?_
 refine yd hg3_11 6 ?_
 refine yd hg3_17 5 ?_
 refine yd hg3_22 5 ?_
 refine yd hg3_27 11 ?_
 refine ye [2] ?_
 exact hl7 _ (zi h).symm
 refine yx hn 2 ?_
 refine yd hg3_1 5 ?_
 refine yd hg3_6 5 ?_
 refine yd hg3_11 6 ?_
 refine yd hg3_17 5 ?_
 refine yd hg3_22 16 ?_
 refine ye [2] ?_
 exact hl7 _ (zi h).symm
 refine yx hn 2 ?_
 refine yd hg3_1 5 ?_
 refine yd hg3_6 5 ?_
 refine yd hg3_11 6 ?_
 refine yd hg3_17 21 ?_
 refine ye [2] ?_
 exact hl7 _ (zi h).symm
 refine yx hn 2 ?_
 refine yd hg3_1 5 ?_
 refine yd hg3_6 5 ?_
 refine yd hg3_11 27 ?_
 refine ye [2] ?_
 exact hl7 _ (zi h).symm
 refine yx hn 2 ?_
 refine yd hg3_1 5 ?_
 refine yd hg3_6 32 ?_
 refine ye [2] ?_
 exact hl7 _ (zi h).symm
 refine yx hn 2 ?_
 refine yd hg3_1 37 ?_
 refine ye [2] ?_
 exact hl7 _ (zi h).symm
 intro u2 h hl3 hr4
 refine ao h (fun hg2_4 h => ?_) (fun hg2_4 h => ?_)
 refine ao h (fun hg2_10 h => ?_) (fun hg2_10 h => ?_)
 refine ao h (fun hg2_16 h => ?_) (fun hg2_16 h => ?_)
 refine ao h (fun hg2_21 h => ?_) (fun hg2_21 h => ?_)
 refine ao h (fun hg2_26 h => ?_) (fun hg2_26 h => ?_)
 refine yx hn 2 ?_
 refine yS (.agg [vb false,vs z0,vs z0]) 0 ⟨cw _ _ _ _ [1,1,1] _ _ underlying24 pX (sR _ underlying24) mJ.nil rfl rfl rfl⟩ ?_
 refine yS (vb ((p_r.GS.GM.GT==false)&&((p_r.GS.GM.GR.toList==z0.toList)&&((p_r.GS.GM.GJ.toList==z0.toList)&&true)))) 1 ⟨jj _ _ [.bool p_r.GS.GM.GT,.string p_r.GS.GM.GR,.string p_r.GS.GM.GJ] [.bool false,.string z0,.string z0] (((p_r.GS.GM.GT==false)&&((p_r.GS.GM.GR.toList==z0.toList)&&((p_r.GS.GM.GJ.toList==z0.toList)&&true)))) _ false (by kernel_rfl) (by kernel_rfl) (by kernel_rfl) (by kernel_rfl) (by kernel_rfl) rfl rfl rfl rfl (by kernel_rfl) rfl⟩ ?_
 refine yd hg2_4 6 ?_
 refine yd hg2_10 6 ?_
 refine yd hg2_16 5 ?_
 refine yd hg2_21 5 ?_
 refine yd hg2_26 5 ?_
 refine ye [1,4] ?_
 exact hl3 _ (zi h).symm
 refine yx hn 2 ?_
 refine yS (.agg [vb false,vs z0,vs z0]) 0 ⟨cw _ _ _ _ [1,1,1] _ _ underlying24 pX (sR _ underlying24) mJ.nil rfl rfl rfl⟩ ?_
 refine yS (vb ((p_r.GS.GM.GT==false)&&((p_r.GS.GM.GR.toList==z0.toList)&&((p_r.GS.GM.GJ.toList==z0.toList)&&true)))) 1 ⟨jj _ _ [.bool p_r.GS.GM.GT,.string p_r.GS.GM.GR,.string p_r.GS.GM.GJ] [.bool false,.string z0,.string z0] (((p_r.GS.GM.GT==false)&&((p_r.GS.GM.GR.toList==z0.toList)&&((p_r.GS.GM.GJ.toList==z0.toList)&&true)))) _ false (by kernel_rfl) (by kernel_rfl) (by kernel_rfl) (by kernel_rfl) (by kernel_rfl) rfl rfl rfl rfl (by kernel_rfl) rfl⟩ ?_
 refine yd hg2_4 6 ?_
 refine yd hg2_10 6 ?_
 refine yd hg2_16 5 ?_
 refine yd hg2_21 5 ?_
 refine yd hg2_26 5 ?_
 refine ye [1,4] ?_
 exact hl3 _ (zi h).symm
 refine yx hn 2 ?_
 refine yS (.agg [vb false,vs z0,vs z0]) 0 ⟨cw _ _ _ _ [1,1,1] _ _ underlying24 pX (sR _ underlying24) mJ.nil rfl rfl rfl⟩ ?_
 refine yS (vb ((p_r.GS.GM.GT==false)&&((p_r.GS.GM.GR.toList==z0.toList)&&((p_r.GS.GM.GJ.toList==z0.toList)&&true)))) 1 ⟨jj _ _ [.bool p_r.GS.GM.GT,.string p_r.GS.GM.GR,.string p_r.GS.GM.GJ] [.bool false,.string z0,.string z0] (((p_r.GS.GM.GT==false)&&((p_r.GS.GM.GR.toList==z0.toList)&&((p_r.GS.GM.GJ.toList==z0.toList)&&true)))) _ false (by kernel_rfl) (by kernel_rfl) (by kernel_rfl) (by kernel_rfl) (by kernel_rfl) rfl rfl rfl rfl (by kernel_rfl) rfl⟩ ?_
 refine yd hg2_4 6 ?_
 refine yd hg2_10 6 ?_
 refine yd hg2_16 5 ?_
 refine yd hg2_21 10 ?_
 refine ye [1,4] ?_
 exact hl3 _ (zi h).symm
 refine yx hn 2 ?_
 refine yS (.agg [vb false,vs z0,vs z0]) 0 ⟨cw _ _ _ _ [1,1,1] _ _ underlying24 pX (sR _ underlying24) mJ.nil rfl rfl rfl⟩ ?_
 refine yS (vb ((p_r.GS.GM.GT==false)&&((p_r.GS.GM.GR.toList==z0.toList)&&((p_r.GS.GM.GJ.toList==z0.toList)&&true)))) 1 ⟨jj _ _ [.bool p_r.GS.GM.GT,.string p_r.GS.GM.GR,.string p_r.GS.GM.GJ] [.bool false,.string z0,.string z0] (((p_r.GS.GM.GT==false)&&((p_r.GS.GM.GR.toList==z0.toList)&&((p_r.GS.GM.GJ.toList==z0.toList)&&true)))) _ false (by kernel_rfl) (by kernel_rfl) (by kernel_rfl) (by kernel_rfl) (by kernel_rfl) rfl rfl rfl rfl (by kernel_rfl) rfl⟩ ?_
 refine yd hg2_4 6 ?_
 refine yd hg2_10 6 ?_
 refine yd hg2_16 15 ?_
 refine ye [1,4] ?_
 exact hl3 _ (zi h).symm
 refine yx hn 2 ?_
 refine yS (.agg [vb false,vs z0,vs z0]) 0 ⟨cw _ _ _ _ [1,1,1] _ _ underlying24 pX (sR _ underlying24) mJ.nil rfl rfl rfl⟩ ?_
 refine yS (vb ((p_r.GS.GM.GT==false)&&((p_r.GS.GM.GR.toList==z0.toList)&&((p_r.GS.GM.GJ.toList==z0.toList)&&true)))) 1 ⟨jj _ _ [.bool p_r.GS.GM.GT,.string p_r.GS.GM.GR,.string p_r.GS.GM.GJ] [.bool false,.string z0,.string z0] (((p_r.GS.GM.GT==false)&&((p_r.GS.GM.GR.toList==z0.toList)&&((p_r.GS.GM.GJ.toList==z0.toList)&&true)))) _ false (by kernel_rfl) (by kernel_rfl) (by kernel_rfl) (by kernel_rfl) (by kernel_rfl) rfl rfl rfl rfl (by kernel_rfl) rfl⟩ ?_
 refine yd hg2_4 6 ?_
 refine yd hg2_10 21 ?_
 refine ye [1,4] ?_
 exact hl3 _ (zi h).symm
 refine yx hn 2 ?_
 refine yS (.agg [vb false,vs z0,vs z0]) 0 ⟨cw _ _ _ _ [1,1,1] _ _ underlying24 pX (sR _ underlying24) mJ.nil rfl rfl rfl⟩ ?_
 refine yS (vb ((p_r.GS.GM.GT==false)&&((p_r.GS.GM.GR.toList==z0.toList)&&((p_r.GS.GM.GJ.toList==z0.toList)&&true)))) 1 ⟨jj _ _ [.bool p_r.GS.GM.GT,.string p_r.GS.GM.GR,.string p_r.GS.GM.GJ] [.bool false,.string z0,.string z0] (((p_r.GS.GM.GT==false)&&((p_r.GS.GM.GR.toList==z0.toList)&&((p_r.GS.GM.GJ.toList==z0.toList)&&true)))) _ false (by kernel_rfl) (by kernel_rfl) (by kernel_rfl) (by kernel_rfl) (by kernel_rfl) rfl rfl rfl rfl (by kernel_rfl) rfl⟩ ?_
 refine yd hg2_4 27 ?_
 refine ye [1,4] ?_
 exact hl3 _ (zi h).symm
theorem lX (s:Hd) (sep:Hd) (sepSave:Int) (r:(Hd×Hd×Int)) (h:Sh.gQ s sep sepSave=some r):cg Tryz.prog 111 [.v (.string s),.v (.string sep),.v (.int .i64 sepSave)] (.cloB 116 [.box 9 [.v (.string r.1)],.box 9 [.v (.string r.2.1)],.box 3 [.v (.int .i64 r.2.2)]]):=by
 unfold Sh.gQ at h
 refine yO 8 func111 fun g0 hn hio => ?_
 refine aZ hn 4 [3,4,5] ?_
 refine iJ hn 0 ?_
 refine yk [4,3,5] [] ?_
 refine yt (7,.cloB 116 [.box 9 [vs sep],.box 9 [vs s],.box 3 [vi sepSave]]) 0 ⟨uG _ _ [4,3,5] [.box 9 [vs sep],.box 9 [vs s],.box 3 [vi sepSave]] rfl rfl rfl⟩ ?_
 refine ya 0 ?_
 refine cN [6] ?_
 refine aD ?_
 obtain rfl:=zi h
 exact aJ hio rfl (.tmp _ _ .nil) rfl rfl
theorem iO (s:Hd) (sep:Hd) (r:(Hd×Hd×Int)) (h:Sh.eT s sep=some r):cg Tryz.prog 97 [.v (.string s),.v (.string sep)] (.cloB 116 [.box 9 [.v (.string r.1)],.box 9 [.v (.string r.2.1)],.box 3 [.v (.int .i64 r.2.2)]]):=by
 unfold Sh.eT at h
 refine yO 8 func97 fun g0 hn hio => ?_
 refine aZ hn 1 [0,1] ?_
 refine aj ?_
 obtain ⟨v1,hv1,h⟩:=zn h
 refine yx hn 2 ?_
 refine yk [] [5,6] ?_
 refine yt (7,.cloB 116 [.box 9 [vs v1.1],.box 9 [vs v1.2.1],.box 3 [vi v1.2.2]]) 0 ⟨lA _ _ 111 _ _ rfl call111 rfl rfl (lX s sep 0 _ hv1) rfl⟩ ?_
 refine ya 0 ?_
 refine cN [4] ?_
 refine aD ?_
 obtain rfl:=zi h
 exact aJ hio rfl (.tmp _ _ .nil) rfl rfl
theorem fJ (mx:Int) (s:Hd) (r:(Int×Int)) (h:Sh.cP s=some r):kM Tryz.prog (GL mx) 119 [.v (.string s)] (.tup [.v (.int .i32 r.1),.v (.int .i64 r.2)]):=by
 unfold Sh.cP at h
 refine yG 117 func119 fun g0 hn hio => ?_
 refine aZ hn 2 [0,117] ?_
 refine aZ hn 3 [0,117,4] ?_
 refine aj ?_
 refine aZ hn 2 [0,117,4,16] ?_
 refine zc h rfl (fun h => ?_) (fun h => ?_)
 refine aZ hn 2 [117,2,3] ?_
 refine aD ?_
 refine aB [1,2] (by kernel_rfl) (es':=[(_,_),(_,_)]) rfl ?_
 refine ay ?_
 obtain rfl:=zi h
 exact aJ hio rfl (.tmp _ _ (.tmp _ _ .nil)) rfl rfl
 refine aE ?_
 refine ak (aj ?_)
 obtain ⟨v2,hv2,h⟩:=zn h
 refine yx hn 1 ?_
 refine ys 1 ⟨lh hv2⟩ ?_
 refine cN [0,117,4,5] ?_
 refine aj ?_
 obtain ⟨v3,hv3,v4,hv4,h⟩:=ii h
 refine yx hn 1 ?_
 refine yS (.v (.pointer (some ⟨1,(0+v3 * 1),none⟩))) 0 ⟨tV _ _ _ _ 256 1 0 _ 1 _ underlying126 Dy rfl rfl (cc hv3).1 (cc hv3).2⟩ ?_
 refine yS (.v (.int .u8 v4)) 1 ⟨mT _ _ 117 1 _ _ _ underlying5 rfl rfl rfl (wY mx) (zQ hv4)⟩ ?_
 refine cN [0,117,4,5,6] ?_
 refine aj ?_
 refine aZ hn 2 [0,117,4,5,6,23] ?_
 refine zc h rfl (fun h => ?_) (fun h => ?_)
 refine aj ?_
 obtain ⟨v6,hv6,v7,hv7,v8,hv8,h⟩:=pj h
 refine yx hn 1 ?_
 refine ys 0 ⟨lv hv6⟩ ?_
 refine ys 0 ⟨lB (CT hv7)⟩ ?_
 refine ys 1 ⟨lB (yN hv8)⟩ ?_
 refine cN [0,117,7] ?_
 refine aj ?_
 obtain ⟨v9,hv9,v10,hv10,v11,hv11,v12,hv12,h⟩:=pI h
 obtain ⟨v13,hv13,h⟩:=zn h
 refine yx hn 1 ?_
 refine ys 0 ⟨lh hv9⟩ ?_
 refine ys 1 ⟨lv hv10⟩ ?_
 refine ys 1 ⟨lb hv11⟩ ?_
 refine ys 0 ⟨lb hv12⟩ ?_
 refine ys 2 ⟨lb hv13⟩ ?_
 refine cN [117,2,3] ?_
 refine aD ?_
 refine aB [1,2] (by kernel_rfl) (es':=[(_,_),(_,_)]) rfl ?_
 refine ay ?_
 obtain rfl:=zi h
 exact aJ hio rfl (.tmp _ _ (.tmp _ _ .nil)) rfl rfl
 cases h
theorem gh (mx:Int) (s:Hd) (r:(Int×Int)) (h:Sh.dl s=some r):kM Tryz.prog (GL mx) 117 [.v (.string s)] (.tup [.v (.int .i32 r.1),.v (.int .i64 r.2)]):=by
 unfold Sh.dl at h
 refine yG 19 func117 fun g0 hn hio => ?_
 refine aZ hn 2 [0,19] ?_
 refine aj (aj ?_)
 refine aK h (fun (s2:Bool)=>[(0,vs s),(19,.glob (GL mx)),(10,vb s2)]) ?_ ?_
 rintro s2 h
 refine ak ?_
 refine zc h rfl (fun h => ?_) (fun h => ?_)
 refine aj ?_
 obtain ⟨v7,hv7,v8,hv8,h⟩:=ii h
 refine yx hn 1 ?_
 refine ys 0 ⟨lh hv7⟩ ?_
 refine ys 2 ⟨lv hv8⟩ ?_
 refine cN [19,2,3] ?_
 refine aD ?_
 refine aB [1,2] (by kernel_rfl) (es':=[(_,_),(_,_)]) rfl ?_
 refine ay ?_
 obtain rfl:=zi h
 exact aJ hio rfl (.tmp _ _ (.tmp _ _ .nil)) rfl rfl
 obtain ⟨v9,hv9,h⟩:=zn h
 refine yx hn 1 ?_
 refine ys 0 ⟨lg call119 (fJ _ _ _ hv9) 19⟩ ?_
 refine ym 4 ?_
 refine cN [19,2,3] ?_
 refine aD ?_
 refine aB [1,2] (by kernel_rfl) (es':=[(_,_),(_,_)]) rfl ?_
 obtain rfl:=zi h
 exact aJ hio rfl (.tmp _ _ (.tmp _ _ .nil)) rfl rfl
 intro u3 h hl4 hr5
 refine ao h (fun hg1_2 h => ?_) (fun hg1_2 h => ?_)
 obtain ⟨v1,hv1,h⟩:=zn h
 refine yx hn 3 ?_
 refine yd hg1_2 1 ?_
 refine ys 2 ⟨lh hv1⟩ ?_
 refine ye [0,19,10] ?_
 exact hl4 _ (zi h).symm
 refine yx hn 3 ?_
 refine yd hg1_2 4 ?_
 refine ye [0,19,10] ?_
 exact hl4 _ (zi h).symm
theorem nV (s sub:Hd) (r:Int) (h:Sh.dX s sub=some r):cg Tryz.prog 118 [.v (.string s),.v (.string sub)] (.v (.int .i64 r)):=mP Tryz.strings_Index_one s sub r h
theorem gM (mx:Int) (l:Nat) {S:Type} (J:S→iZ) (Y:Hd→S→Option (S×Bool)) (hY:nm Tryz.prog l (fun x => .v (.string x)) Y J) (c0:Hd) (c1:Hd) (c2:Int) (st r:S) (h:Sh.cy Y c0 c1 c2 st=some r):DP Tryz.prog (GL mx) 116 l [.box 9 [.v (.string c0)],.box 9 [.v (.string c1)],.box 3 [.v (.int .i64 c2)]] (J st) (J r):=by
 unfold Sh.cy at h
 refine yI 52 func116 fun g0 hn hio => ?_
 refine aj ?_
 refine aZ hn 3 [0,1,2,3,52,53,11] ?_
 refine zc h rfl (fun h => ?_) (fun h => ?_)
 refine aj ?_
 refine dJ [0,2,4,5] (by kernel_rfl) (es':=[(_,_),(_,_),(_,_),(_,_)]) rfl ?_
 refine bp h (fun ((s12,s13):Hd×S)=>[(0,.v (.func (.yield l) #[] #[])),(2,.box 9 [vs s12]),(52,.glob (GL mx)),(53,.inv (J s13))]) (fun (s16:S)=>[(52,.glob (GL mx)),(53,.inv (J s16))]) ?_ ?_
 rintro s16 h
 refine ak (aD ?_)
 refine aB [1] (by kernel_rfl) (es':=[(53,.inv (J s16))]) rfl ?_
 refine ay ?_
 obtain rfl:=zi h
 exact pE hio rfl rfl rfl
 rintro u17 hl18 hr19 ⟨s12,s13⟩ rr22 h ho20
 refine aj ?_
 refine aZ hn 3 [0,2,52,53,14] ?_
 refine zc h rfl (fun h => ?_) (fun h => ?_)
 refine aE (ak (aU (aj ?_)))
 obtain ⟨v3,hv3,h⟩:=zn h
 refine yx hn 1 ?_
 refine ys 0 ⟨lg call117 (gh _ _ _ hv3) 52⟩ ?_
 refine ym 4 ?_
 refine cN [0,2,52,53,6] ?_
 refine aj (aj ?_)
 obtain ⟨v4,hv4,v5,hv5,h⟩:=ii h
 refine yx hn 3 ?_
 refine yS (vs v4) 0 ⟨lQ _ _ _ 0 v3.2 _ underlying9 rfl rfl ⟨_,rfl⟩ hv4⟩ ?_
 refine yk [53] [23,20] ?_
 refine wZ (53,.inv (J v5.1)) (24,vb v5.2) 1 ⟨nf _ _ 53 l v4 s13 v5 hY hv5 rfl rfl rfl⟩ ?_
 refine cN [0,2,52,53,6,25] ?_
 refine zc h rfl (fun h => ?_) (fun h => ?_)
 refine aD ?_
 refine aB [3] (by kernel_rfl) (es':=[(53,.inv (J v5.1))]) rfl ?_
 refine ay (aV (ay (aV (ay (ay ?_)))))
 have h:=hr19 _ (ho20 _ (zi h).symm).symm
 obtain rfl:=zi h
 exact pE hio rfl rfl rfl
 refine aE (ak ?_)
 obtain ⟨v7,hv7,h⟩:=zn h
 refine yx hn 2 ?_
 refine yS (vs v7) 1 ⟨lQ _ _ _ v3.2 (s12.size:Int) _ underlying9 rfl ⟨_,rfl⟩ rfl hv7⟩ ?_
 refine ye [0,2,52,53] ?_
 refine aT ?_
 exact bH _ (zi h).symm rfl
 refine bF (aH (aH (bG ?_)))
 refine aB [2,3] (by kernel_rfl) (es':=[(_,_),(_,_)]) rfl ?_
 exact hl18 _ (ho20 _ (zi h).symm).symm
 refine aE ?_
 refine ak (aj ?_)
 refine dJ [0,1,2,3,4,5] (by kernel_rfl) (es':=[(_,_),(_,_),(_,_),(_,_),(_,_),(_,_)]) rfl ?_
 refine bp h (fun ((s37,s38):Hd×S)=>[(0,.v (.func (.yield l) #[] #[])),(1,.box 9 [vs c0]),(2,.box 9 [vs s37]),(3,.box 3 [vi c2]),(52,.glob (GL mx)),(53,.inv (J s38))]) (fun ((s41,s42):Hd×S)=>[(0,.v (.func (.yield l) #[] #[])),(2,.box 9 [vs s41]),(52,.glob (GL mx)),(53,.inv (J s42))]) ?_ ?_
 rintro ⟨s41,s42⟩ h
 refine ak ?_
 obtain ⟨v51,hv51,h⟩:=zn h
 refine yx hn 2 ?_
 refine yk [53] [50,49] ?_
 refine wZ (53,.inv (J v51.1)) (51,vb v51.2) 0 ⟨nf _ _ 53 l s41 s42 v51 hY hv51 rfl rfl rfl⟩ ?_
 refine ye [52,53] ?_
 refine aB [1] (by kernel_rfl) (es':=[(53,.inv (J v51.1))]) rfl ?_
 obtain rfl:=zi h
 exact Ba hio rfl rfl rfl
 rintro u43 hl44 hr45 ⟨s37,s38⟩ rr48 h ho46
 refine aU (aj ?_)
 obtain ⟨v25,hv25,h⟩:=zn h
 refine yx hn 2 ?_
 refine ys 1 ⟨lk call118 (nV _ _ _ hv25)⟩ ?_
 refine cN [0,1,2,3,52,53,7] ?_
 refine aj ?_
 refine aZ hn 2 [0,1,2,3,52,53,7,33] ?_
 refine zc h rfl (fun h => ?_) (fun h => ?_)
 refine bF (aH ?_)
 refine zE (by decide) ?_
 refine aH (bG ?_)
 refine aB [0,2,4,5] (by kernel_rfl) (es':=[(_,_),(_,_),(_,_),(_,_)]) rfl ?_
 exact hl44 _ (ho46 _ (zi h).symm).symm
 refine aE ?_
 refine ak (aj ?_)
 obtain ⟨v27,hv27,v28,hv28,h⟩:=ii h
 refine yx hn 3 ?_
 refine ys 0 ⟨lb hv27⟩ ?_
 refine yS (vs v28) 1 ⟨lQ _ _ _ 0 v27 _ underlying9 rfl rfl ⟨_,rfl⟩ hv28⟩ ?_
 refine cN [0,1,2,3,52,53,7,8] ?_
 refine aj (aj ?_)
 obtain ⟨v29,hv29,h⟩:=zn h
 refine yx hn 2 ?_
 refine yk [53] [40,39] ?_
 refine wZ (53,.inv (J v29.1)) (41,vb v29.2) 1 ⟨nf _ _ 53 l v28 s38 v29 hY hv29 rfl rfl rfl⟩ ?_
 refine cN [0,1,2,3,52,53,7,42] ?_
 refine zc h rfl (fun h => ?_) (fun h => ?_)
 refine aD ?_
 refine aB [5] (by kernel_rfl) (es':=[(53,.inv (J v29.1))]) rfl ?_
 refine ay (aV (ay (aV (ay ?_))))
 have h:=hr45 _ (ho46 _ (zi h).symm).symm
 obtain rfl:=zi h
 exact pE hio rfl rfl rfl
 refine aE (ak ?_)
 obtain ⟨v31,hv31,v32,hv32,h⟩:=ii h
 refine yx hn 4 ?_
 refine ys 0 ⟨lb hv31⟩ ?_
 refine yS (vs v32) 1 ⟨lQ _ _ _ v31 (s37.size:Int) _ underlying9 rfl ⟨_,rfl⟩ rfl hv32⟩ ?_
 refine ye [0,1,2,3,52,53] ?_
 refine aT ?_
 exact bH _ (zi h).symm rfl
theorem eB (c:Int) (r:Bool) (h:Sh.fq c=some r):cg Tryz.prog 100 [.v (.int .u8 c)] (.v (.bool r)):=by
 unfold Sh.fq at h
 refine yO 25 func100 fun g0 hn hio => ?_
 refine aZ hn 1 [0] ?_
 refine aj ?_
 refine aK h (fun (s1:Bool)=>[(2,vb s1)]) ?_ ?_
 rintro s1 h
 refine ak (aD ?_)
 obtain rfl:=zi h
 exact aJ hio rfl (.tmp _ _ .nil) rfl rfl
 intro u2 h hl3 hr4
 refine ao h (fun hg1_2 h => ?_) (fun hg1_2 h => ?_)
 refine ao h (fun hg1_6 h => ?_) (fun hg1_6 h => ?_)
 refine yx hn 3 ?_
 refine yd hg1_2 4 ?_
 refine yd hg1_6 16 ?_
 refine ye [2] ?_
 exact hl3 _ (zi h).symm
 refine ao h (fun hg1_9 h => ?_) (fun hg1_9 h => ?_)
 refine ao h (fun hg1_14 h => ?_) (fun hg1_14 h => ?_)
 refine yx hn 3 ?_
 refine yd hg1_2 4 ?_
 refine yd hg1_6 3 ?_
 refine yd hg1_9 5 ?_
 refine yd hg1_14 8 ?_
 refine ye [2] ?_
 exact hl3 _ (zi h).symm
 refine ao h (fun hg1_17 h => ?_) (fun hg1_17 h => ?_)
 refine yx hn 3 ?_
 refine yd hg1_2 4 ?_
 refine yd hg1_6 3 ?_
 refine yd hg1_9 5 ?_
 refine yd hg1_14 3 ?_
 refine yd hg1_17 5 ?_
 refine ye [2] ?_
 exact hl3 _ (zi h).symm
 refine yx hn 3 ?_
 refine yd hg1_2 4 ?_
 refine yd hg1_6 3 ?_
 refine yd hg1_9 5 ?_
 refine yd hg1_14 3 ?_
 refine yd hg1_17 5 ?_
 refine ye [2] ?_
 exact hl3 _ (zi h).symm
 refine ao h (fun hg1_17 h => ?_) (fun hg1_17 h => ?_)
 refine yx hn 3 ?_
 refine yd hg1_2 4 ?_
 refine yd hg1_6 3 ?_
 refine yd hg1_9 8 ?_
 refine yd hg1_17 5 ?_
 refine ye [2] ?_
 exact hl3 _ (zi h).symm
 refine yx hn 3 ?_
 refine yd hg1_2 4 ?_
 refine yd hg1_6 3 ?_
 refine yd hg1_9 8 ?_
 refine yd hg1_17 5 ?_
 refine ye [2] ?_
 exact hl3 _ (zi h).symm
 refine ao h (fun hg1_9 h => ?_) (fun hg1_9 h => ?_)
 refine ao h (fun hg1_14 h => ?_) (fun hg1_14 h => ?_)
 refine yx hn 3 ?_
 refine yd hg1_2 7 ?_
 refine yd hg1_9 5 ?_
 refine yd hg1_14 8 ?_
 refine ye [2] ?_
 exact hl3 _ (zi h).symm
 refine ao h (fun hg1_17 h => ?_) (fun hg1_17 h => ?_)
 refine yx hn 3 ?_
 refine yd hg1_2 7 ?_
 refine yd hg1_9 5 ?_
 refine yd hg1_14 3 ?_
 refine yd hg1_17 5 ?_
 refine ye [2] ?_
 exact hl3 _ (zi h).symm
 refine yx hn 3 ?_
 refine yd hg1_2 7 ?_
 refine yd hg1_9 5 ?_
 refine yd hg1_14 3 ?_
 refine yd hg1_17 5 ?_
 refine ye [2] ?_
 exact hl3 _ (zi h).symm
 refine ao h (fun hg1_17 h => ?_) (fun hg1_17 h => ?_)
 refine yx hn 3 ?_
 refine yd hg1_2 7 ?_
 refine yd hg1_9 8 ?_
 refine yd hg1_17 5 ?_
 refine ye [2] ?_
 exact hl3 _ (zi h).symm
 refine yx hn 3 ?_
 refine yd hg1_2 7 ?_
 refine yd hg1_9 8 ?_
 refine yd hg1_17 5 ?_
 refine ye [2] ?_
 exact hl3 _ (zi h).symm
theorem lw (s:Hd) (c r:Int) (h:Sh.strings_IndexByte s c=some r):cg Tryz.prog 101 [.v (.string s),.v (.int .u8 c)] (.v (.int .i64 r)):=kH Tryz.strings_IndexByte s c r h
theorem rb (c:Int) (r:Bool) (h:Sh.gw c=some r):cg Tryz.prog 99 [.v (.int .u8 c)] (.v (.bool r)):=by
 unfold Sh.gw at h
 refine yO 10 func99 fun g0 hn hio => ?_
 refine aZ hn 1 [0] ?_
 refine aj ?_
 refine aK h (fun (s3:Bool)=>[(2,vb s3)]) ?_ ?_
 rintro s3 h
 refine ak (aD ?_)
 obtain rfl:=zi h
 exact aJ hio rfl (.tmp _ _ .nil) rfl rfl
 intro u4 h hl5 hr6
 obtain ⟨v1,hv1,h⟩:=zn h
 refine ao h (fun hg1_2 h => ?_) (fun hg1_2 h => ?_)
 refine yx hn 1 ?_
 refine ys 1 ⟨lk call100 (eB _ _ hv1)⟩ ?_
 refine yd hg1_2 5 ?_
 refine ye [2] ?_
 exact hl5 _ (zi h).symm
 obtain ⟨v2,hv2,h⟩:=zn h
 refine yx hn 1 ?_
 refine ys 1 ⟨lk call100 (eB _ _ hv1)⟩ ?_
 refine yd hg1_2 1 ?_
 refine ys 3 ⟨lk call101 (lw _ _ _ hv2)⟩ ?_
 refine ye [2] ?_
 exact hl5 _ (zi h).symm
theorem jt (s:Hd) (r:Bool) (h:Sh.eM s=some r):cg Tryz.prog 98 [.v (.string s),.v (.func (.func 99) #[] #[])] (.v (.bool r)):=by
 unfold Sh.eM at h
 refine yO 18 func98 fun g0 hn hio => ?_
 refine aZ hn 1 [0,1] ?_
 refine aj ?_
 refine aZ hn 3 [0,1,7,8] ?_
 refine bp h (fun (s9:Int)=>[(0,vs s),(1,.v (.func (.func 99) #[] #[])),(7,vi (s.size:Int)),(8,vi s9)]) (fun (():Unit)=>[]) ?_ ?_
 rintro ⟨⟩ h
 refine ak ?_
 refine aZ hn 1 [4] ?_
 refine aD ?_
 obtain rfl:=zi h
 exact aJ hio rfl (.tmp _ _ .nil) rfl rfl
 rintro u12 hl13 hr14 s9 rr17 h ho15
 refine aZ hn 1 [0,1,7,8,9] ?_
 refine aj ?_
 refine zc h rfl (fun h => ?_) (fun h => ?_)
 refine aE ?_
 refine ak (aj ?_)
 refine aU ?_
 refine aZ hn 2 [0,1,7,8,5] ?_
 refine aj ?_
 obtain ⟨v2,hv2,v3,hv3,h⟩:=ii h
 refine yx hn 3 ?_
 refine ys 0 ⟨lh hv2⟩ ?_
 refine ys 1 ⟨lk call99 (rb _ _ hv3)⟩ ?_
 refine cN [0,1,7,8,16] ?_
 refine zc h rfl (fun h => ?_) (fun h => ?_)
 refine aZ hn 1 [4] ?_
 refine aD (aV (ay (ay (aV (ay ?_)))))
 have h:=hr14 _ (ho15 _ (zi h).symm).symm
 obtain rfl:=zi h
 exact aJ hio rfl (.tmp _ _ .nil) rfl rfl
 refine aE (aT (ak ?_))
 obtain ⟨v5,hv5,h⟩:=zn h
 refine yx hn 0 ?_
 refine ys 0 ⟨lb hv5⟩ ?_
 refine yw [8] 1 ?_
 refine ye [0,1,7,8] ?_
 exact bH _ (zi h).symm rfl
 refine bF (aH (aH (bG ?_)))
 refine aB [] (by kernel_rfl) (es':=[]) rfl ?_
 exact hl13 _ (ho15 _ (zi h).symm).symm
theorem tF (s:Hd) (r:Bool) (h:Sh.kj s=some r):cg Tryz.prog 87 [.v (.string s)] (.v (.bool r)):=by
 unfold Sh.kj at h
 refine yO 9 func87 fun g0 hn hio => ?_
 refine aZ hn 1 [0] ?_
 refine aj ?_
 refine aK h (fun (s2:Bool)=>[(2,vb s2)]) ?_ ?_
 rintro s2 h
 refine ak (aD ?_)
 obtain rfl:=zi h
 exact aJ hio rfl (.tmp _ _ .nil) rfl rfl
 intro u3 h hl4 hr5
 refine ao h (fun hg1_2 h => ?_) (fun hg1_2 h => ?_)
 obtain ⟨v1,hv1,h⟩:=zn h
 refine yx hn 3 ?_
 refine yd hg1_2 1 ?_
 refine ys 2 ⟨lk call98 (jt _ _ hv1)⟩ ?_
 refine ye [2] ?_
 exact hl4 _ (zi h).symm
 refine yx hn 3 ?_
 refine yd hg1_2 4 ?_
 refine ye [2] ?_
 exact hl4 _ (zi h).symm
end Go.Proofs.YtjdmcbkkacnmdaaGreatDoor
