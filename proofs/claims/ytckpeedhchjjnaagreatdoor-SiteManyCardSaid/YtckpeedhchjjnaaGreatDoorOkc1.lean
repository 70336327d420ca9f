import Derived.Test.YtckpeedhchjjnaaGreatDoorShelf
import Derived.Test.YtckpeedhchjjnaaGreatDoorIdx
import Derived.Test.YtckpeedhchjjnaaGreatDoorSrt
import Derived.Test.YtckpeedhchjjnaaGreatDoorShr
import Derived.Test.YtckpeedhchjjnaaGreatDoorBI
import Derived.Test.YtckpeedhchjjnaaGreatDoorBJ
import Derived.Test.YtckpeedhchjjnaaGreatDoorE1
import Derived.Test.YtckpeedhchjjnaaGreatDoorD1
import Derived.Test.YtckpeedhchjjnaaGreatDoorSh
set_option linter.unusedVariables false
set_option linter.unusedSimpArgs false
set_option maxHeartbeats 1000000
namespace Go.Proofs.YtckpeedhchjjnaaGreatDoor
open Go.Abs Go.Abs.Sh Tryz
open List (map flatten)
open Value (int string bool)
variable (mx:Int×Nat×Value)
def GL (mx:Int×Nat×Value):List (Nat×List Value):=[(0,[.int .i64 mx.1]),(1,(List.map (Value.int .i64) cN)),(2,(List.map (Value.int .u8) ig)),(3,(List.map (Value.int .u8) kb)),(5,[.iface mx.2.1 mx.2.2]),(7,(List.map (Value.int .u64) gM))]
theorem zG (mx:Int×Nat×Value):(0,([.int .i64 mx.1]:List Value))∈GL mx := .head _
theorem FJ (mx:Int×Nat×Value):(1,((List.map (Value.int .i64) cN):List Value))∈GL mx := .tail _ (.head _)
theorem CJ (mx:Int×Nat×Value):(2,((List.map (Value.int .u8) ig):List Value))∈GL mx := .tail _ (.tail _ (.head _))
theorem FU (mx:Int×Nat×Value):(3,((List.map (Value.int .u8) kb):List Value))∈GL mx := .tail _ (.tail _ (.tail _ (.head _)))
theorem FG (mx:Int×Nat×Value):(5,([.iface mx.2.1 mx.2.2]:List Value))∈GL mx := .tail _ (.tail _ (.tail _ (.tail _ (.head _))))
theorem FZ (mx:Int×Nat×Value):(7,((List.map (Value.int .u64) gM):List Value))∈GL mx := .tail _ (.tail _ (.tail _ (.tail _ (.tail _ (.head _)))))
theorem Hk:(prog.info? 24).bind (·.zero)=some (.agg #[.string .empty,.string .empty,.int .i64 0,.string .empty,.string .empty,.int .i64 0,.bool false]):=bi
abbrev ba.b (x:ba):List AV:=[.v (.string ((x.LI.getD 0 (⟨#[]⟩:ME)))),.v (.string ((x.LI.getD 1 (⟨#[]⟩:ME)))),.v (.int .i64 x.LK),.v (.string x.MB),.v (.string x.Mu),.v (.int .i64 x.LY),.v (.bool x.LO)]
theorem wL:(prog.info? 9).map (·.size)=some 1:=bi
theorem JN:(prog.info? 22).bind (·.zero)=some (.agg #[.string .empty,.string .empty]):=bi
theorem Kb:vg prog 24 [2,1,1,1,1,1]:=vq underlying24 bi
theorem Hi:(prog.info? 24).map (·.size)=some 7:=bi
abbrev ba.s (x:ba):List AV:=[.v (.string ((x.LI.getD 0 (⟨#[]⟩:ME)))),.v (.string ((x.LI.getD 1 (⟨#[]⟩:ME)))),.v (.int .i64 x.LK),.v (.string x.MB),.v (.string x.Mu),.v (.int .i64 x.LY),.v (.bool x.LO)]
instance:UD prog 3 (.int .i64):=⟨underlying3⟩
instance:UD prog 44 (.int .u64):=⟨underlying44⟩
instance:AA prog 24 7:=⟨bi⟩
theorem kA:(prog.info? 3).map (·.size)=some 1:=bi
instance:FO prog 24 4 5:=⟨bi⟩
instance:AS prog 3:=⟨bi⟩
theorem Kl:vg prog 84 [1,1,1,1,1,1,1,1,1]:=vq underlying84 bi
theorem JV:(prog.info? 84).bind (·.zero)=some (.agg #[.int .i64 0,.slice none 0 0,.int .i64 0,.int .i64 0,.int .i64 0,.int .i64 0,.bool false,.int .i64 0,.int .i64 0]):=bi
abbrev ao.b (x:ao):List AV:=[.v (.int .i64 x.limit),.fr (.own 96) false 15 (List.flatten (List.map bl.ienc x.recs)),.v (.int .i64 x.used),.v (.int .i64 x.safe),.v (.int .i64 x.kept),.v (.int .i64 x.life),.v (.bool x.off),.v (.int .i64 x.trip),.v (.int .i64 x.tripKeep)]
theorem JS:(prog.info? 22).map (·.size)=some 2:=bi
theorem JI:(prog.info? 4).bind (·.zero)=some (.bool false):=bi
instance:AS prog 9:=⟨bi⟩
instance:UD prog 9 .string:=⟨underlying9⟩
instance:UD prog 5 (.int .u8):=⟨underlying5⟩
instance:UD prog 21 (.int .i32):=⟨underlying21⟩
theorem pt:(prog.info? 5).map (·.size)=some 1:=bi
instance:AS prog 106:=⟨bi⟩
theorem Lw:(prog.info? 4).map (·.size)=some 1:=bi
instance:AS prog 4:=⟨bi⟩
instance:UD prog 30 (.slice 5):=⟨underlying30⟩
instance:FO prog 24 0 0:=⟨bi⟩
instance:FO prog 24 1 2:=⟨bi⟩
instance:FO prog 24 2 3:=⟨bi⟩
instance:FO prog 24 3 4:=⟨bi⟩
theorem DP:(prog.info? 53).bind (·.zero)=some (.agg #[.int .i64 0,.string .empty,.bool false,.string .empty,.string .empty,.slice none 0 0,.bool false,.slice none 0 0,.string .empty,.bool false]):=bi
theorem Kx:vg prog 53 [1,1,3,1,1,1,1,1]:=vq underlying53 bi
theorem zZ:(prog.info? 53).map (·.size)=some 10:=bi
instance:AA prog 53 10:=⟨bi⟩
abbrev bS.b (x:bS):List AV:=[.v (.int .i64 x.Mo),.v (.string x.LP),.v (.bool x.LL.Mc),.v (.string x.LL.LX),.v (.string x.LL.LH),.fl (.own 50) 3 (List.flatten (List.map aE.enc x.To)),.v (.bool x.Mr),.fl (.own 5) 1 (List.map (Value.int .u8) x.LA),.v (.string x.LC),.v (.bool x.Mq)]
theorem KK:vg prog 62 [1,7,1,1,6,1,10,7,1,3,1]:=vq underlying62 bi
theorem Ka:(prog.info? 62).bind (·.zero)=some (.agg #[.int .i64 0,.string .empty,.string .empty,.int .i64 0,.string .empty,.string .empty,.int .i64 0,.bool false,.pointer none,.int .i64 0,.slice none 0 0,.int .i64 0,.slice none 0 0,.slice none 0 0,.int .i64 0,.slice none 0 0,.slice none 0 0,.int .i64 0,.string .empty,.bool false,.string .empty,.string .empty,.slice none 0 0,.bool false,.slice none 0 0,.string .empty,.bool false,.int .i64 0,.slice none 0 0,.bool false,.int .i64 0,.int .i64 0,.int .i64 0,.bool false,.bool false,.bool false,.int .i64 0,.int .i64 0,.bool false]):=bi
abbrev ao.bx (x:ao):List AV:=[.v (.int .i64 x.limit),.fr (.own 96) false 15 (List.flatten (List.map bl.ienc x.recs)),.v (.int .i64 x.used),.v (.int .i64 x.safe),.v (.int .i64 x.kept),.v (.int .i64 x.life),.v (.bool x.off),.v (.int .i64 x.trip),.v (.int .i64 x.tripKeep)]
abbrev ab.b (q:Option Nat) (x:ab):List AV:=[.v (.int .i64 x.number),.v (.string ((x.config.LI.getD 0 (⟨#[]⟩:ME)))),.v (.string ((x.config.LI.getD 1 (⟨#[]⟩:ME)))),.v (.int .i64 x.config.LK),.v (.string x.config.MB),.v (.string x.config.Mu),.v (.int .i64 x.config.LY),.v (.bool x.config.LO),.hid (nT q 84 (ao.bx x.diary)),.v (.int .i64 x.life),.fr .ro false 11 (List.flatten (List.map aK.ienc x.spool.LR)),.v (.int .i64 x.spool.Mk),.fl .ro 1 (List.map (Value.int .i64) x.spool.Mv),.fl .ro 1 (List.map (Value.int .u8) x.spool.Mm),.v (.int .i64 x.spool.Of),.fl .ro 1 (List.map (Value.int .i64) x.spool.LJ),.fr .ro false 9 (List.flatten (List.map aU.ienc x.found)),.v (.int .i64 x.gate.Mo),.v (.string x.gate.LP),.v (.bool x.gate.LL.Mc),.v (.string x.gate.LL.LX),.v (.string x.gate.LL.LH),.fl .ro 3 (List.flatten (List.map aE.enc x.gate.To)),.v (.bool x.gate.Mr),.fl .ro 1 (List.map (Value.int .u8) x.gate.LA),.v (.string x.gate.LC),.v (.bool x.gate.Mq),.v (.int .i64 x.send.Me),.fl .ro 1 (List.map (Value.int .u8) x.send.LF),.v (.bool x.send.Ms),.v (.int .i64 x.send.Ly),.v (.int .i64 x.send.Mb),.v (.int .i64 x.send.MD),.v (.bool x.send.Mi),.v (.bool x.sending),.v (.bool x.take.Mg),.v (.int .i64 x.take.Me),.v (.int .i64 x.take.MA),.v (.bool x.released)]
instance:FO prog 84 6 6:=⟨bi⟩
theorem KY:(prog.info? 82).map (·.size)=some 1:=bi
instance:UD prog 82 (.slice 96):=⟨underlying82⟩
instance:LenI bl.ienc 15:=⟨bl.ilen⟩
theorem BX:(prog.info? 96).map (·.size)=some 15:=bi
theorem Bh:(prog.info? 96).bind (·.zero)=some (.agg #[.int .i64 0,.bool false,.string .empty,.string .empty,.slice none 0 0,.slice none 0 0,.bool false,.string .empty,.int .i64 0,.int .i64 0,.slice none 0 0,.int .i64 0,.int .i64 0,.int .i64 0,.slice none 0 0]):=bi
abbrev bl.s (x:bl):List AV:=[.v (.int .i64 x.LU),.v (.bool x.LZ.LL.Mc),.v (.string x.LZ.LL.LX),.v (.string x.LZ.LL.LH),.fl .shr 3 (List.flatten (List.map aE.enc x.LZ.To)),.fl .shr 1 (List.map (Value.int .u8) x.LZ.Lz),.v (.bool x.LZ.Mr),.v (.string x.LZ.LP),.v (.int .i64 x.LZ.At),.v (.int .i64 x.Id),.fl .shr 1 (List.map (Value.int .i64) x.LQ),.v (.int .i64 x.Mh),.v (.int .i64 x.Me),.v (.int .i64 x.Mf),.fl .shr 1 (List.map (Value.int .u8) x.LF)]
instance:SZ prog 96 15:=⟨bi⟩
instance:AA prog 96 15:=⟨bi⟩
theorem qE:(prog.info? 66).map (·.size)=some 8:=bi
abbrev aF.s (x:aF):List AV:=[.v (.bool x.LL.Mc),.v (.string x.LL.LX),.v (.string x.LL.LH),.fl .shr 3 (List.flatten (List.map aE.enc x.To)),.fl .shr 1 (List.map (Value.int .u8) x.Lz),.v (.bool x.Mr),.v (.string x.LP),.v (.int .i64 x.At)]
theorem tn:(prog.info? 66).bind (·.zero)=some (.agg #[.bool false,.string .empty,.string .empty,.slice none 0 0,.slice none 0 0,.bool false,.string .empty,.int .i64 0]):=bi
theorem GT:(prog.info? 51).map (·.size)=some 1:=bi
theorem Iq:dO prog 51 50 3 40:=⟨⟨Tryz.t50,.agg #[.bool false,.string .empty,.string .empty],underlying51,by kernel_rfl,by kernel_rfl,by kernel_rfl,by kernel_rfl,by decide,by kernel_rfl⟩⟩
instance:FO prog 66 1 3:=⟨bi⟩
instance:AS prog 51:=⟨bi⟩
theorem ri:(prog.info? 30).map (·.size)=some 1:=bi
theorem mU:dO prog 30 5 1 1:=⟨⟨Tryz.t5,.int .u8 0,underlying30,by kernel_rfl,by kernel_rfl,by kernel_rfl,by kernel_rfl,by decide,by kernel_rfl⟩⟩
abbrev aF.b (x:aF):List AV:=[.v (.bool x.LL.Mc),.v (.string x.LL.LX),.v (.string x.LL.LH),.fl (.own 50) 3 (List.flatten (List.map aE.enc x.To)),.fl (.own 5) 1 (List.map (Value.int .u8) x.Lz),.v (.bool x.Mr),.v (.string x.LP),.v (.int .i64 x.At)]
instance:FO prog 66 2 4:=⟨bi⟩
instance:AS prog 30:=⟨bi⟩
instance:FO prog 96 1 1:=⟨bi⟩
instance:AA prog 66 8:=⟨bi⟩
theorem FP:(prog.info? 38).map (·.size)=some 1:=bi
theorem qa:dO prog 38 3 1 8:=⟨⟨Tryz.t3,.int .i64 0,underlying38,by kernel_rfl,by kernel_rfl,by kernel_rfl,by kernel_rfl,by decide,by kernel_rfl⟩⟩
instance:FO prog 96 3 10:=⟨bi⟩
instance:AS prog 38:=⟨bi⟩
abbrev bl.b (x:bl):List AV:=[.v (.int .i64 x.LU),.v (.bool x.LZ.LL.Mc),.v (.string x.LZ.LL.LX),.v (.string x.LZ.LL.LH),.fl (.own 50) 3 (List.flatten (List.map aE.enc x.LZ.To)),.fl (.own 5) 1 (List.map (Value.int .u8) x.LZ.Lz),.v (.bool x.LZ.Mr),.v (.string x.LZ.LP),.v (.int .i64 x.LZ.At),.v (.int .i64 x.Id),.fl (.own 3) 1 (List.map (Value.int .i64) x.LQ),.v (.int .i64 x.Mh),.v (.int .i64 x.Me),.v (.int .i64 x.Mf),.fl (.own 5) 1 (List.map (Value.int .u8) x.LF)]
instance:FO prog 96 7 14:=⟨bi⟩
theorem IW:dO prog 82 96 15 208:=⟨⟨Tryz.t96,.agg #[.int .i64 0,.bool false,.string .empty,.string .empty,.slice none 0 0,.slice none 0 0,.bool false,.string .empty,.int .i64 0,.int .i64 0,.slice none 0 0,.int .i64 0,.int .i64 0,.int .i64 0,.slice none 0 0],underlying82,by kernel_rfl,by kernel_rfl,by kernel_rfl,by kernel_rfl,by decide,by kernel_rfl⟩⟩
instance:FO prog 84 1 1:=⟨bi⟩
instance:AS prog 82:=⟨bi⟩
instance:FO prog 62 2 8:=⟨bi⟩
instance:AS prog 27:=⟨bi⟩
theorem yL:(prog.info? 40).bind (·.zero)=some (.agg #[.slice none 0 0,.int .i64 0,.slice none 0 0,.slice none 0 0,.int .i64 0,.slice none 0 0]):=bi
theorem Kd:vg prog 40 [1,1,1,1,1,1]:=vq underlying40 bi
theorem tv:(prog.info? 40).map (·.size)=some 6:=bi
instance:AA prog 40 6:=⟨bi⟩
abbrev aM.b (x:aM):List AV:=[.fr (.own 81) false 11 (List.flatten (List.map aK.ienc x.LR)),.v (.int .i64 x.Mk),.fl (.own 3) 1 (List.map (Value.int .i64) x.Mv),.fl (.own 5) 1 (List.map (Value.int .u8) x.Mm),.v (.int .i64 x.Of),.fl (.own 3) 1 (List.map (Value.int .i64) x.LJ)]
abbrev aM.o (x:aM):List AV:=[.fr .ro false 11 (List.flatten (List.map aK.ienc x.LR)),.v (.int .i64 x.Mk),.fl .ro 1 (List.map (Value.int .i64) x.Mv),.fl .ro 1 (List.map (Value.int .u8) x.Mm),.v (.int .i64 x.Of),.fl .ro 1 (List.map (Value.int .i64) x.LJ)]
instance:FO prog 62 4 10:=⟨bi⟩
instance:FO prog 84 4 4:=⟨bi⟩
instance:FO prog 84 5 5:=⟨bi⟩
instance:FO prog 62 3 9:=⟨bi⟩
theorem IX:(prog.info? 9).bind (·.zero)=some (.string .empty):=bi
instance:UD prog 36 (.slice 9):=⟨underlying36⟩
instance:SZ prog 9 1:=⟨bi⟩
instance:SZ prog 5 1:=⟨bi⟩
instance:AS prog 5:=⟨bi⟩
theorem yo:(prog.info? 5).bind (·.zero)=some (.int .u8 0):=bi
abbrev bS.s (x:bS):List AV:=[.v (.int .i64 x.Mo),.v (.string x.LP),.v (.bool x.LL.Mc),.v (.string x.LL.LX),.v (.string x.LL.LH),.fl .shr 3 (List.flatten (List.map aE.enc x.To)),.v (.bool x.Mr),.fl .shr 1 (List.map (Value.int .u8) x.LA),.v (.string x.LC),.v (.bool x.Mq)]
instance:FO prog 53 0 0:=⟨bi⟩
instance:FO prog 53 6 8:=⟨bi⟩
instance:FO prog 53 3 5:=⟨bi⟩
instance:FO prog 53 5 7:=⟨bi⟩
theorem KJ:vg prog 93 [10,7,1,1,1]:=vq underlying93 bi
theorem Kj:(prog.info? 93).bind (·.zero)=some (.agg #[.int .i64 0,.string .empty,.bool false,.string .empty,.string .empty,.slice none 0 0,.bool false,.slice none 0 0,.string .empty,.bool false,.string .empty,.string .empty,.int .i64 0,.string .empty,.string .empty,.int .i64 0,.bool false,.int .i64 0,.int .i64 0,.slice none 0 0]):=bi
instance:FO prog 93 0 0:=⟨bi⟩
abbrev af.b (x:af):List AV:=[.v (.int .i64 x.LM.Mo),.v (.string x.LM.LP),.v (.bool x.LM.LL.Mc),.v (.string x.LM.LL.LX),.v (.string x.LM.LL.LH),.fl (.own 50) 3 (List.flatten (List.map aE.enc x.LM.To)),.v (.bool x.LM.Mr),.mkr 5 (List.map (Value.int .u8) x.LM.LA),.v (.string x.LM.LC),.v (.bool x.LM.Mq),.v (.string ((x.config.LI.getD 0 (⟨#[]⟩:ME)))),.v (.string ((x.config.LI.getD 1 (⟨#[]⟩:ME)))),.v (.int .i64 x.config.LK),.v (.string x.config.MB),.v (.string x.config.Mu),.v (.int .i64 x.config.LY),.v (.bool x.config.LO),.v (.int .i64 x.site),.v (.int .i64 x.at_),.fr (.own 68) false 12 (List.flatten (List.map ce.ienc x.out))]
theorem Ij:(prog.info? 30).bind (·.zero)=some (.slice none 0 0):=bi
theorem xk:(prog.info? 3).bind (·.zero)=some (.int .i64 0):=bi
theorem KF:(prog.info? 32).bind (·.zero)=some (.int .i64 0):=bi
instance:AS prog 32:=⟨bi⟩
theorem Eo:(prog.info? 64).bind (·.zero)=some (.agg #[.int .i64 0,.slice none 0 0]):=bi
theorem HO:vg prog 64 [1,1]:=vq underlying64 bi
theorem GR:(prog.info? 64).map (·.size)=some 2:=bi
theorem GW:vg prog 68 [2,1,8,1]:=vq underlying68 bi
theorem Be:(prog.info? 68).bind (·.zero)=some (.agg #[.int .i64 0,.slice none 0 0,.bool false,.bool false,.string .empty,.string .empty,.slice none 0 0,.slice none 0 0,.bool false,.string .empty,.int .i64 0,.bool false]):=bi
theorem Dj:(prog.info? 68).map (·.size)=some 12:=bi
theorem By:(prog.info? 50).map (·.size)=some 3:=bi
theorem He:vg prog 66 [3,1,1,1,1,1]:=vq underlying66 bi
instance:FO prog 53 2 2:=⟨bi⟩
instance:AA prog 50 3:=⟨bi⟩
theorem Ea:vg prog 172 [1,1,1]:=vq underlying172 bi
theorem CQ:(prog.info? 172).bind (·.zero)=some (.agg #[.int .i64 0,.int .i64 0,.slice none 0 0]):=bi
theorem JB:(prog.info? 172).map (·.size)=some 3:=bi
instance:FO prog 172 0 0:=⟨bi⟩
instance:FO prog 172 1 1:=⟨bi⟩
theorem Jt:(prog.info? 152).map (·.size)=some 1:=bi
instance:FO prog 172 2 2:=⟨bi⟩
instance:AS prog 152:=⟨bi⟩
instance:UD prog 152 (.slice 66):=⟨underlying152⟩
instance:LenI aF.ienc 8:=⟨aF.ilen⟩
instance:SZ prog 66 8:=⟨bi⟩
theorem wZ:vg prog 50 [1,1,1]:=vq underlying50 bi
theorem oK:(prog.info? 50).bind (·.zero)=some (.agg #[.bool false,.string .empty,.string .empty]):=bi
instance:FO prog 50 0 0:=⟨bi⟩
instance:FO prog 50 1 1:=⟨bi⟩
instance:FO prog 50 2 2:=⟨bi⟩
instance:FO prog 66 0 0:=⟨bi⟩
instance:UD prog 51 (.slice 50):=⟨underlying51⟩
instance:LenE aE.enc 3:=⟨aE.len⟩
instance:SZ prog 50 3:=⟨bi⟩
instance:FO prog 66 3 5:=⟨bi⟩
instance:FO prog 66 4 6:=⟨bi⟩
instance:FO prog 66 5 7:=⟨bi⟩
instance:AA prog 172 3:=⟨bi⟩
theorem EP:((prog.info? 301).bind (·.zero)).map (·.cells.toList)=some (List.map (Value.int .u32) (List.replicate 16 (0:Int))):=bi
instance:UD prog 259 (.int .u32):=⟨underlying259⟩
theorem CG:(prog.info? 259).map (·.size)=some 1:=bi
theorem Cq:(prog.info? 301).map (·.size)=some 16:=bi
instance:UD prog 38 (.slice 3):=⟨underlying38⟩
instance:SZ prog 3 1:=⟨bi⟩
instance:FO prog 53 4 6:=⟨bi⟩
instance:FO prog 53 1 1:=⟨bi⟩
instance:FO prog 93 3 18:=⟨bi⟩
abbrev ce.o (x:ce):List AV:=[.v (.int .i64 x.Mt.LD),.fl .ro 1 (List.map string x.Mt.LW),.v (.bool x.LN),.v (.bool x.LZ.LL.Mc),.v (.string x.LZ.LL.LX),.v (.string x.LZ.LL.LH),.fl .ro 3 (List.flatten (List.map aE.enc x.LZ.To)),.fl .ro 1 (List.map (Value.int .u8) x.LZ.Lz),.v (.bool x.LZ.Mr),.v (.string x.LZ.LP),.v (.int .i64 x.LZ.At),.v (.bool x.Lx)]
instance:AA prog 68 12:=⟨bi⟩
theorem Jy:(prog.info? 54).map (·.size)=some 1:=bi
theorem IL:dO prog 54 68 12 168:=⟨⟨Tryz.t68,.agg #[.int .i64 0,.slice none 0 0,.bool false,.bool false,.string .empty,.string .empty,.slice none 0 0,.slice none 0 0,.bool false,.string .empty,.int .i64 0,.bool false],underlying54,by kernel_rfl,by kernel_rfl,by kernel_rfl,by kernel_rfl,by decide,by kernel_rfl⟩⟩
instance:FO prog 93 4 19:=⟨bi⟩
instance:AS prog 54:=⟨bi⟩
theorem Ft:GJ prog 86 0:=fun p1 p2 n c1 k c2 xs ys m w hx hy hr1 hr2 h1 h2 hp1 hcap hs hk hm=>Tryz.bytes_Cut_all p1 p2 n c1 k c2 xs ys m w hx hy hr1 hr2 h1 h2 hp1 hcap hs hk hm
theorem uD:(prog.info? 183).bind (·.zero)=some (.agg #[.int .i64 0,.string .empty,.bool false,.string .empty,.string .empty,.slice none 0 0]):=bi
theorem GC:vg prog 183 [1,1,3,1]:=vq underlying183 bi
theorem uC:(prog.info? 183).map (·.size)=some 6:=bi
instance:AA prog 183 6:=⟨bi⟩
instance:FO prog 183 0 0:=⟨bi⟩
theorem GB:(prog.info? 181).bind (·.zero)=some (.slice none 0 0):=bi
instance:AS prog 181:=⟨bi⟩
abbrev cu.b (x:cu):List AV:=[.v (.int .i64 x.LU),.v (.string x.Mz),.v (.bool x.Mn.Mc),.v (.string x.Mn.LX),.v (.string x.Mn.LH),.fl (.own 315) 2 (List.flatten (List.map dJ.enc x.Ml))]
instance:FO prog 183 1 1:=⟨bi⟩
abbrev cu.s (x:cu):List AV:=[.v (.int .i64 x.LU),.v (.string x.Mz),.v (.bool x.Mn.Mc),.v (.string x.Mn.LX),.v (.string x.Mn.LH),.fl .shr 2 (List.flatten (List.map dJ.enc x.Ml))]
instance:FO prog 183 3 5:=⟨bi⟩
instance:UD prog 181 (.slice 315):=⟨underlying181⟩
instance:LenE dJ.enc 2:=⟨dJ.len⟩
instance:SZ prog 315 2:=⟨bi⟩
instance:AA prog 315 2:=⟨bi⟩
instance:FO prog 183 2 2:=⟨bi⟩
instance:FO prog 93 1 10:=⟨bi⟩
abbrev cu.o (x:cu):List AV:=[.v (.int .i64 x.LU),.v (.string x.Mz),.v (.bool x.Mn.Mc),.v (.string x.Mn.LX),.v (.string x.Mn.LH),.fl .ro 2 (List.flatten (List.map dJ.enc x.Ml))]
abbrev bS.o (x:bS):List AV:=[.v (.int .i64 x.Mo),.v (.string x.LP),.v (.bool x.LL.Mc),.v (.string x.LL.LX),.v (.string x.LL.LH),.fl .ro 3 (List.flatten (List.map aE.enc x.To)),.v (.bool x.Mr),.fl .ro 1 (List.map (Value.int .u8) x.LA),.v (.string x.LC),.v (.bool x.Mq)]
instance:FO prog 62 6 17:=⟨bi⟩
instance:UD prog 54 (.slice 68):=⟨underlying54⟩
instance:LenI ce.ienc 12:=⟨ce.ilen⟩
instance:SZ prog 68 12:=⟨bi⟩
instance:FO prog 68 1 2:=⟨bi⟩
theorem Jb:(prog.info? 37).map (·.size)=some 1:=bi
instance:FO prog 40 0 0:=⟨bi⟩
instance:AS prog 37:=⟨bi⟩
instance:UD prog 37 (.slice 81):=⟨underlying37⟩
instance:LenI aK.ienc 11:=⟨aK.ilen⟩
theorem JD:vg prog 96 [1,8,1,1,1,1,1,1]:=vq underlying96 bi
instance:FO prog 62 0 0:=⟨bi⟩
instance:FO prog 62 1 1:=⟨bi⟩
instance:FO prog 96 4 11:=⟨bi⟩
instance:FO prog 84 2 2:=⟨bi⟩
instance:FO prog 84 0 0:=⟨bi⟩
instance:FO prog 84 7 7:=⟨bi⟩
instance:FO prog 84 3 3:=⟨bi⟩
abbrev aM.s (x:aM):List AV:=[.fr .shr true 11 (List.flatten (List.map aK.ienc x.LR)),.v (.int .i64 x.Mk),.fl .shr 1 (List.map (Value.int .i64) x.Mv),.fl .shr 1 (List.map (Value.int .u8) x.Mm),.v (.int .i64 x.Of),.fl .shr 1 (List.map (Value.int .i64) x.LJ)]
instance:FO prog 96 0 0:=⟨bi⟩
theorem IS:vg prog 168 [1,1,3,3,1]:=vq underlying168 bi
theorem GP:(prog.info? 168).bind (·.zero)=some (.agg #[.int .i64 0,.int .i64 0,.bool false,.string .empty,.string .empty,.bool false,.string .empty,.string .empty,.slice none 0 0]):=bi
theorem IF:(prog.info? 168).map (·.size)=some 9:=bi
theorem IE:dO prog 31 168 9 120:=⟨⟨Tryz.t168,.agg #[.int .i64 0,.int .i64 0,.bool false,.string .empty,.string .empty,.bool false,.string .empty,.string .empty,.slice none 0 0],underlying31,by kernel_rfl,by kernel_rfl,by kernel_rfl,by kernel_rfl,by decide,by kernel_rfl⟩⟩
abbrev aU.b (x:aU):List AV:=[.v (.int .i64 x.LU),.v (.int .i64 x.Mx),.v (.bool x.LL.Mc),.v (.string x.LL.LX),.v (.string x.LL.LH),.v (.bool x.To.Mc),.v (.string x.To.LX),.v (.string x.To.LH),.fl (.own 5) 1 (List.map (Value.int .u8) x.Lz)]
instance:FO prog 96 2 9:=⟨bi⟩
instance:FO prog 96 5 12:=⟨bi⟩
instance:FO prog 96 6 13:=⟨bi⟩
theorem uN:(prog.info? 81).map (·.size)=some 11:=bi
abbrev aK.s (x:aK):List AV:=[.v (.int .i64 x.Id),.v (.bool x.LZ.LL.Mc),.v (.string x.LZ.LL.LX),.v (.string x.LZ.LL.LH),.fl .shr 3 (List.flatten (List.map aE.enc x.LZ.To)),.fl .shr 1 (List.map (Value.int .u8) x.LZ.Lz),.v (.bool x.LZ.Mr),.v (.string x.LZ.LP),.v (.int .i64 x.LZ.At),.v (.int .i64 x.My),.v (.int .i64 x.Mj)]
instance:FO prog 81 0 0:=⟨bi⟩
instance:SZ prog 81 11:=⟨bi⟩
instance:FO prog 81 2 9:=⟨bi⟩
instance:FO prog 40 1 1:=⟨bi⟩
theorem wl:(prog.info? 81).bind (·.zero)=some (.agg #[.int .i64 0,.bool false,.string .empty,.string .empty,.slice none 0 0,.slice none 0 0,.bool false,.string .empty,.int .i64 0,.int .i64 0,.int .i64 0]):=bi
instance:AA prog 81 11:=⟨bi⟩
abbrev aK.b (x:aK):List AV:=[.v (.int .i64 x.Id),.v (.bool x.LZ.LL.Mc),.v (.string x.LZ.LL.LX),.v (.string x.LZ.LL.LH),.fl (.own 50) 3 (List.flatten (List.map aE.enc x.LZ.To)),.fl (.own 5) 1 (List.map (Value.int .u8) x.LZ.Lz),.v (.bool x.LZ.Mr),.v (.string x.LZ.LP),.v (.int .i64 x.LZ.At),.v (.int .i64 x.My),.v (.int .i64 x.Mj)]
instance:FO prog 81 1 1:=⟨bi⟩
theorem HJ:dO prog 37 81 11 144:=⟨⟨Tryz.t81,.agg #[.int .i64 0,.bool false,.string .empty,.string .empty,.slice none 0 0,.slice none 0 0,.bool false,.string .empty,.int .i64 0,.int .i64 0,.int .i64 0],underlying37,by kernel_rfl,by kernel_rfl,by kernel_rfl,by kernel_rfl,by decide,by kernel_rfl⟩⟩
instance:FO prog 40 2 2:=⟨bi⟩
instance:FO prog 40 3 3:=⟨bi⟩
instance:FO prog 40 5 5:=⟨bi⟩
theorem Kg:vg prog 81 [1,8,1,1]:=vq underlying81 bi
abbrev aK.o (x:aK):List AV:=[.v (.int .i64 x.Id),.v (.bool x.LZ.LL.Mc),.v (.string x.LZ.LL.LX),.v (.string x.LZ.LL.LH),.fl .ro 3 (List.flatten (List.map aE.enc x.LZ.To)),.fl .ro 1 (List.map (Value.int .u8) x.LZ.Lz),.v (.bool x.LZ.Mr),.v (.string x.LZ.LP),.v (.int .i64 x.LZ.At),.v (.int .i64 x.My),.v (.int .i64 x.Mj)]
instance:FO prog 81 3 10:=⟨bi⟩
abbrev aF.o (x:aF):List AV:=[.v (.bool x.LL.Mc),.v (.string x.LL.LX),.v (.string x.LL.LH),.fl .ro 3 (List.flatten (List.map aE.enc x.To)),.fl .ro 1 (List.map (Value.int .u8) x.Lz),.v (.bool x.Mr),.v (.string x.LP),.v (.int .i64 x.At)]
instance:FO prog 68 2 3:=⟨bi⟩
instance:FO prog 68 0 0:=⟨bi⟩
instance:FO prog 68 3 11:=⟨bi⟩
instance:FO prog 64 0 0:=⟨bi⟩
instance:FO prog 64 1 1:=⟨bi⟩
instance:AS prog 36:=⟨bi⟩
instance:AA prog 64 2:=⟨bi⟩
instance:UD prog 31 (.slice 168):=⟨underlying31⟩
instance:LenI aU.ienc 9:=⟨aU.ilen⟩
instance:FO prog 62 8 34:=⟨bi⟩
theorem uR:(prog.info? 58).map (·.size)=some 7:=bi
instance:FO prog 62 7 27:=⟨bi⟩
instance:FO prog 58 6 6:=⟨bi⟩
theorem Ji:vg prog 58 [1,1,1,1,1,1,1]:=vq underlying58 bi
theorem Bd:(prog.info? 58).bind (·.zero)=some (.agg #[.int .i64 0,.slice none 0 0,.bool false,.int .i64 0,.int .i64 0,.int .i64 0,.bool false]):=bi
instance:AA prog 58 7:=⟨bi⟩
instance:FO prog 24 5 6:=⟨bi⟩
instance:FO prog 62 10 38:=⟨bi⟩
theorem EJ:dO prog 152 66 8 120:=⟨⟨Tryz.t66,.agg #[.bool false,.string .empty,.string .empty,.slice none 0 0,.slice none 0 0,.bool false,.string .empty,.int .i64 0],underlying152,by kernel_rfl,by kernel_rfl,by kernel_rfl,by kernel_rfl,by decide,by kernel_rfl⟩⟩
theorem IK:vg prog 321 [1,1,1,1]:=vq underlying321 bi
theorem IY:(prog.info? 321).bind (·.zero)=some (.agg #[.slice none 0 0,.map none,.slice none 0 0,.int .i64 0]):=bi
abbrev aA.b (x:aA):List AV:=[.fl .shr 1 (List.map (Value.int .u8) x.b),.hid (yN prog 323 3 x.last),.fl (.own 3) 1 (List.map (Value.int .i64) x.back),.v (.int .i64 x.from_)]
theorem Ek:((prog.info? 323).bind (·.zero)).map (·.cells.toList)=some (List.map (Value.int .u8) (List.replicate 3 (0:Int))):=bi
instance:FO prog 321 0 0:=⟨bi⟩
theorem IR:(prog.info? 323).bind (·.zero)=some (.agg #[.int .u8 0,.int .u8 0,.int .u8 0]):=bi
theorem rC:(prog.info? 323).map (·.size)=some 3:=bi
theorem EQ:Fy prog 319 323 3 3:=Fg underlying319 underlying3 xk underlying323 underlying5 (by kernel_rfl) (by kernel_rfl) (by kernel_rfl) (by kernel_rfl)
instance:FO prog 321 1 1:=⟨bi⟩
instance:AS prog 319:=⟨bi⟩
instance:FO prog 321 3 3:=⟨bi⟩
instance:FO prog 321 2 2:=⟨bi⟩
theorem Je:vg prog 280 [1,1,1]:=vq underlying280 bi
theorem xz:(prog.info? 280).bind (·.zero)=some (.agg #[.int .u8 0,.int .i64 0,.int .i64 0]):=bi
theorem Cv:(prog.info? 280).map (·.size)=some 3:=bi
instance:AA prog 280 3:=⟨bi⟩
instance:FO prog 280 0 0:=⟨bi⟩
theorem Ju:dO prog 230 280 3 24:=⟨⟨Tryz.t280,.agg #[.int .u8 0,.int .i64 0,.int .i64 0],underlying230,by kernel_rfl,by kernel_rfl,by kernel_rfl,by kernel_rfl,by decide,by kernel_rfl⟩⟩
instance:LenE bT.enc 3:=⟨bT.len⟩
theorem Jn:vg prog 238 [1,1]:=vq underlying238 bi
theorem IV:(prog.info? 238).bind (·.zero)=some (.agg #[.slice none 0 0,.int .i64 0]):=bi
instance:FO prog 238 1 1:=⟨bi⟩
instance:FO prog 238 0 0:=⟨bi⟩
theorem DU:(prog.info? 287).bind (·.zero)=some (.agg #[.slice none 0 0,.slice none 0 0]):=bi
theorem xB:((prog.info? 385).bind (·.zero)).map (·.cells.toList)=some (List.map (Value.int .i64) (List.replicate 16 (0:Int))):=bi
theorem jY:(prog.info? 385).map (·.size)=some 16:=bi
theorem CX:(prog.info? 385).bind (·.zero)=some (.agg #[.int .i64 0,.int .i64 0,.int .i64 0,.int .i64 0,.int .i64 0,.int .i64 0,.int .i64 0,.int .i64 0,.int .i64 0,.int .i64 0,.int .i64 0,.int .i64 0,.int .i64 0,.int .i64 0,.int .i64 0,.int .i64 0]):=bi
theorem Jo:vg prog 287 [1,1]:=vq underlying287 bi
theorem GH:(prog.info? 287).map (·.size)=some 2:=bi
instance:UD prog 230 (.slice 280):=⟨underlying230⟩
instance:SZ prog 280 3:=⟨bi⟩
instance:FO prog 280 1 1:=⟨bi⟩
instance:FO prog 287 1 1:=⟨bi⟩
instance:FO prog 287 0 0:=⟨bi⟩
instance:AA prog 287 2:=⟨bi⟩
theorem CW:(prog.info? 381).bind (·.zero)=some (.agg #[.int .i64 0,.int .i64 0,.int .i64 0]):=bi
theorem GN:vg prog 381 [1,1,1]:=vq underlying381 bi
instance:AA prog 381 3:=⟨bi⟩
instance:FO prog 381 1 1:=⟨bi⟩
instance:FO prog 381 0 0:=⟨bi⟩
instance:FO prog 381 2 2:=⟨bi⟩
instance:FO prog 280 2 2:=⟨bi⟩
theorem DZ:dO prog 390 392 2 16:=⟨⟨Tryz.t392,.agg #[.int .i64 0,.int .i64 0],underlying390,by kernel_rfl,by kernel_rfl,by kernel_rfl,by kernel_rfl,by decide,by kernel_rfl⟩⟩
theorem GO:vg prog 392 [1,1]:=vq underlying392 bi
theorem CU:(prog.info? 392).bind (·.zero)=some (.agg #[.int .i64 0,.int .i64 0]):=bi
theorem CS:(prog.info? 392).map (·.size)=some 2:=bi
instance:AS prog 390:=⟨bi⟩
instance:UD prog 390 (.slice 392):=⟨underlying390⟩
instance:LenI aC.ienc 2:=⟨aC.ilen⟩
instance:SZ prog 392 2:=⟨bi⟩
instance:FO prog 392 0 0:=⟨bi⟩
theorem Jv:(prog.info? 390).map (·.size)=some 1:=bi
instance:FO prog 392 1 1:=⟨bi⟩
theorem Jd:(prog.info? 335).map (·.size)=some 19:=bi
abbrev bp.b (x:bp):List AV:=[.v (.int .i64 x.Me),.fl (.own 5) 1 (List.map (Value.int .u8) x.LF),.v (.bool x.Ms),.v (.int .i64 x.Ly),.v (.int .i64 x.Mb),.v (.int .i64 x.MD),.v (.bool x.Mi)]
abbrev bp.s (x:bp):List AV:=[.v (.int .i64 x.Me),.fl .shr 1 (List.map (Value.int .u8) x.LF),.v (.bool x.Ms),.v (.int .i64 x.Ly),.v (.int .i64 x.Mb),.v (.int .i64 x.MD),.v (.bool x.Mi)]
instance:FO prog 58 1 1:=⟨bi⟩
instance:FO prog 58 0 0:=⟨bi⟩
instance:FO prog 58 3 3:=⟨bi⟩
instance:FO prog 58 4 4:=⟨bi⟩
instance:FO prog 58 5 5:=⟨bi⟩
instance:FO prog 58 2 2:=⟨bi⟩
abbrev bp.o (x:bp):List AV:=[.v (.int .i64 x.Me),.fl .ro 1 (List.map (Value.int .u8) x.LF),.v (.bool x.Ms),.v (.int .i64 x.Ly),.v (.int .i64 x.Mb),.v (.int .i64 x.MD),.v (.bool x.Mi)]
theorem Hg:(prog.info? 79).bind (·.zero)=some (.agg #[.int .i64 0,.int .i64 0,.int .i64 0,.int .i64 0,.slice none 0 0]):=bi
theorem KU:vg prog 79 [1,1,1,1,1]:=vq underlying79 bi
theorem KB:(prog.info? 79).map (·.size)=some 5:=bi
instance:AA prog 79 5:=⟨bi⟩
abbrev bQ.b (x:bQ):List AV:=[.v (.int .i64 x.LU),.v (.int .i64 x.Me),.v (.int .i64 x.Mf),.v (.int .i64 x.Mw),.fl (.own 5) 1 (List.map (Value.int .u8) x.LF)]
theorem KV:dO prog 75 79 5 56:=⟨⟨Tryz.t79,.agg #[.int .i64 0,.int .i64 0,.int .i64 0,.int .i64 0,.slice none 0 0],underlying75,by kernel_rfl,by kernel_rfl,by kernel_rfl,by kernel_rfl,by decide,by kernel_rfl⟩⟩
instance:UD prog 75 (.slice 79):=⟨underlying75⟩
instance:LenI bQ.ienc 5:=⟨bQ.ilen⟩
instance:SZ prog 79 5:=⟨bi⟩
instance:FO prog 79 0 0:=⟨bi⟩
instance:FO prog 79 1 1:=⟨bi⟩
instance:AA prog 24 7:=⟨bi⟩
instance:AA prog 40 6:=⟨bi⟩
instance:AA prog 53 10:=⟨bi⟩
instance:AA prog 81 11:=⟨bi⟩
instance:AA prog 58 7:=⟨bi⟩
instance:AA prog 66 8:=⟨bi⟩
instance:AA prog 79 5:=⟨bi⟩
instance:AA prog 96 15:=⟨bi⟩
instance:AA prog 172 3:=⟨bi⟩
instance:AA prog 64 2:=⟨bi⟩
instance:AA prog 68 12:=⟨bi⟩
instance:AA prog 183 6:=⟨bi⟩
instance:AA prog 207 4:=⟨bi⟩
instance:AA prog 287 2:=⟨bi⟩
instance:AA prog 301 16:=⟨bi⟩
instance:AA prog 50 3:=⟨bi⟩
instance:AA prog 308 16:=⟨bi⟩
instance:AA prog 323 3:=⟨bi⟩
instance:AA prog 342 256:=⟨bi⟩
instance:AA prog 315 2:=⟨bi⟩
instance:AA prog 381 3:=⟨bi⟩
instance:AA prog 385 16:=⟨bi⟩
instance:AA prog 405 4:=⟨bi⟩
abbrev bl.c (x:bl) (r:List AV):List AV:=vi x.LU::vb x.LZ.LL.Mc::vs x.LZ.LL.LX::vs x.LZ.LL.LH :: .fl .shr 3 (flatten (map aE.enc x.LZ.To))::fb x.LZ.Lz::vb x.LZ.Mr::vs x.LZ.LP::vi x.LZ.At::vi x.Id::fi x.LQ::vi x.Mh::vi x.Me::vi x.Mf::fb x.LF::r
abbrev bS.c (x:bS) (r:List AV):List AV:=vi x.Mo::vs x.LP::vb x.LL.Mc::vs x.LL.LX::vs x.LL.LH :: .fl .shr 3 (flatten (map aE.enc x.To))::vb x.Mr::fb x.LA::vs x.LC::vb x.Mq::r
abbrev aF.c (x:aF) (r:List AV):List AV:=vb x.LL.Mc::vs x.LL.LX::vs x.LL.LH :: .fl .shr 3 (flatten (map aE.enc x.To))::fb x.Lz::vb x.Mr::vs x.LP::vi x.At::r
abbrev ba.c (x:ba) (r:List AV):List AV:=vs (x.LI.getD 0 z0)::vs (x.LI.getD 1 z0)::vi x.LK::vs x.MB::vs x.Mu::vi x.LY::vb x.LO::r
abbrev bp.c (x:bp) (r:List AV):List AV:=vi x.Me::fb x.LF::vb x.Ms::vi x.Ly::vi x.Mb::vi x.MD::vb x.Mi::r
abbrev aM.c (x:aM) (r:List AV):List AV:=.fr .shr true 11 (flatten (map aK.ienc x.LR))::vi x.Mk::fi x.Mv::fb x.Mm::vi x.Of::fi x.LJ::r
abbrev cu.c (x:cu) (r:List AV):List AV:=vi x.LU::vs x.Mz::vb x.Mn.Mc::vs x.Mn.LX::vs x.Mn.LH :: .fl .shr 2 (flatten (map dJ.enc x.Ml))::r
theorem kI (held:Bool) (expiry:Int) (log:Int) (r:ba) (h:eO held expiry log=some r):bA prog 4 [.v (.bool held),.v (.int .i64 expiry),.v (.int .i64 log)] (.agg (ba.s r)):=by unfold eO at h;refine yO 20 func4 fun g0 hn K=>?_;refine cX hn 0 ?_;refine yS (.box 24 (ba.b ((ba.mk (([z0,z0]:List ME)) 0 z0 z0 0 false)))) 0 ⟨oA (aN _ _ Hk)⟩ ?_;refine aS [0,1,2,6] ?_;refine aa ?_;obtain ⟨v1,w1,v2,w2,v3,w3,v4,w4,h⟩:=pc h;obtain ⟨v5,w5,v6,w6,v7,w7,v8,w8,h⟩:=pc h;refine yx hn 0 ?_;refine yS (.agg [vs (⟨#[97,46,120]⟩:ME),vs (⟨#[98,46,120]⟩:ME)]) 1 ⟨wP _ _ (.agg #[.string .empty,.string .empty]) (map string (([(⟨#[97,46,120]⟩:ME),(⟨#[98,46,120]⟩:ME)]:List ME))) [(0,.string (⟨#[97,46,120]⟩:ME)),(1,.string (⟨#[98,46,120]⟩:ME))] underlying22 wL JN kg (cc dP xM) rfl⟩ ?_;refine ys 0 ⟨lv w1⟩ ?_;refine ys 0 ⟨lB (qI w2)⟩ ?_;refine ys 0 ⟨lv w3⟩ ?_;refine ys 1 ⟨lb w4⟩ ?_;refine ys 0 ⟨lv w5⟩ ?_;refine ys 0 ⟨lB (qI w6)⟩ ?_;refine ys 0 ⟨lv w7⟩ ?_;refine ys 1 ⟨lb w8⟩ ?_;refine yS (.agg (ba.s ((ba.mk (([(⟨#[97,46,120]⟩:ME),(⟨#[98,46,120]⟩:ME)]:List ME)) v4 (⟨#[117]⟩:ME) (⟨#[115]⟩:ME) v8 held)))) 1 ⟨bt _ _ _ _ [2,1,1,1,1,1] _ _ underlying24 Hk (Kb _ underlying24) (.copy _ (.copy _ (.copy _ (.copy _ (.copy _ (.copy _ kh.nil)))))) rfl rfl rfl⟩ ?_;refine aS [6] ?_;exact qr
theorem tj (limit:Int) (r:((Option ao)×Int)) (h:qN limit=some r):bA prog 10 [.v (.int .i64 limit)] (.tup [.obox (Option.isSome r.1) 84 (ao.b ((Option.getD r.1 (default:ao)))),.v (.int .i64 r.2)]):=by
 unfold qN at h;refine yO 13 func10 fun g0 hn K=>?_;refine aI hn 2 [0] ?_;refine aa (aa<|ap h (fun (s1:Bool)=>[(0,vi limit),(9,vb s1)]) ?_ ?_);rintro s1 h;refine ae<|zc h rfl (fun h=>?_) (fun h=>?_)
 cases h
 refine ai (ae<|cX hn 1 ?_);refine yS (.agg [vi limit,vz,vi 0,vi 0,vi 0,vi 0,vb false,vi 0,vi 0]) 1 ⟨bt _ _ _ _ [1,1,1,1,1,1,1,1,1] _ _ underlying84 JV (Kl _ underlying84) (.copy _ kh.nil) rfl rfl rfl⟩ ?_;refine ya 1 ?_;refine aS [2,3] ?_;refine bH<|eZ (fs:=[(2,.obox true 84 (ao.b (ao.mk limit [] 0 0 0 0 false 0 0))),_]) (.sub _ (ey 84 pg) rfl (.same _ .nil)) ?_;obtain rfl:=zi h;exact iE K rfl (.tmp _ _ (.tmp _ _ .nil)) rfl rfl;intro u2 h hl3 hr4;refine aj h (fun hg1_2 h=>?_) (fun hg1_2 h=>?_);refine yx hn 3 ?_;refine yd hg1_2 3 ?_;refine ye [0,9] ?_;exact hl3 _ (zi h).symm;refine yx hn 3 ?_;refine yd hg1_2 3 ?_;refine ye [0,9] ?_;exact hl3 _ (zi h).symm
theorem re (s:ME) (sep:ME) (sepSave:Int) (r:(ME×ME×Int)) (h:jG s sep sepSave=some r):bA prog 126 [.v (.string s),.v (.string sep),.v (.int .i64 sepSave)] (.cloB 174 [.box 9 [.v (.string r.1)],.box 9 [.v (.string r.2.1)],.box 3 [.v (.int .i64 r.2.2)]]):=by unfold jG at h;refine yO 8 func126 fun g0 hn K=>?_;refine aI hn 4 [3,4,5] ?_;refine cX hn 0 ?_;refine yk [4,3,5] [] ?_;refine yt (7,.cloB 174 [.box 9 [vs sep],.box 9 [vs s],.box 3 [vi sepSave]]) 0 ⟨Al _ _ [4,3,5] [.box 9 [vs sep],.box 9 [vs s],.box 3 [vi sepSave]] rfl rfl rfl⟩ ?_;refine ya 0 ?_;refine aS [6] ?_;exact qr
theorem kE (s:ME) (sep:ME) (r:(ME×ME×Int)) (h:gr s sep=some r):bA prog 96 [.v (.string s),.v (.string sep)] (.cloB 174 [.box 9 [.v (.string r.1)],.box 9 [.v (.string r.2.1)],.box 3 [.v (.int .i64 r.2.2)]]):=by unfold gr at h;refine yO 8 func96 fun g0 hn K=>?_;refine aI hn 1 [0,1] ?_;refine aa ?_;obtain ⟨v1,w1,h⟩:=zn h;refine yx hn 2 ?_;refine yk [] [5,6] ?_;refine yt (7,.cloB 174 [.box 9 [vs v1.1],.box 9 [vs v1.2.1],.box 3 [vi v1.2.2]]) 0 ⟨gL _ _ 126 _ _ rfl call126 rfl rfl (re s sep 0 _ w1) rfl⟩ ?_;refine ya 0 ?_;refine aS [4] ?_;exact qr
theorem fU (s:ME) (r:(Int×Int)) (h:cM s=some r):fJ prog (GL mx) 222 [.v (.string s)] (.tup [.v (.int .i32 r.1),.v (.int .i64 r.2)]):=by
 unfold cM at h;refine yG 117 func222 fun g0 hn K=>?_;refine aI hn 2 [0,117] ?_;refine aI hn 3 [0,117,4] ?_;refine aa<|aI hn 2 [0,117,4,16] ?_;refine zc h rfl (fun h=>?_) (fun h=>?_);refine aI hn 2 [117,2,3] ?_;exact qr;refine ai<|ae (aa ?_);obtain ⟨v2,w2,h⟩:=zn h;refine yx hn 1 ?_;refine ys 1 ⟨lh w2⟩ ?_;refine aS [0,117,4,5] ?_;refine aa ?_;obtain ⟨v3,w3,v4,w4,h⟩:=cL h;refine yx hn 1 ?_;refine yS (.v (.pointer (some ⟨2,(0+v3 * 1),none⟩))) 0 ⟨zU _ _ _ _ 256 2 0 _ 1 _ underlying336 pt rfl rfl (bL w3).1 (bL w3).2⟩ ?_;refine yS (.v (.int .u8 v4)) 1 ⟨nN _ _ 117 2 _ _ _ underlying5 rfl rfl rfl (CJ mx) (gH w4)⟩ ?_;refine aS [0,117,4,5,6] ?_;refine aa<|aI hn 2 [0,117,4,5,6,23] ?_;refine zc h rfl (fun h=>?_) (fun h=>?_);refine aa ?_;obtain ⟨v6,w6,v7,w7,v8,w8,h⟩:=mJ h;refine yx hn 1 ?_;refine ys 0 ⟨lv w6⟩ ?_;refine ys 0 ⟨lB (oy w7)⟩ ?_;refine ys 1 ⟨lB (uf w8)⟩ ?_;refine aS [0,117,7] ?_;refine aa ?_;obtain ⟨v9,w9,v10,w10,v11,w11,v12,w12,h⟩:=pc h;obtain ⟨v13,w13,h⟩:=zn h;refine yx hn 1 ?_;refine ys 0 ⟨lh w9⟩ ?_;refine ys 1 ⟨lv w10⟩ ?_;refine ys 1 ⟨lb w11⟩ ?_;refine ys 0 ⟨lb w12⟩ ?_;refine ys 2 ⟨lb w13⟩ ?_;refine aS [117,2,3] ?_;exact qr
 cases h
theorem gX (s:ME) (r:(Int×Int)) (h:dr s=some r):fJ prog (GL mx) 175 [.v (.string s)] (.tup [.v (.int .i32 r.1),.v (.int .i64 r.2)]):=by unfold dr at h;refine yG 19 func175 fun g0 hn K=>?_;refine aI hn 2 [0,19] ?_;refine aa (aa<|ap h (fun (s2:Bool)=>[(0,vs s),(19,.glob (GL mx)),(10,vb s2)]) ?_ ?_);rintro s2 h;refine ae<|zc h rfl (fun h=>?_) (fun h=>?_);refine aa ?_;obtain ⟨v7,w7,v8,w8,h⟩:=cL h;refine yx hn 1 ?_;refine ys 0 ⟨lh w7⟩ ?_;refine ys 2 ⟨lv w8⟩ ?_;refine aS [19,2,3] ?_;exact qr;obtain ⟨v9,w9,h⟩:=zn h;refine yx hn 1 ?_;refine ys 0 ⟨lg call222 (fU _ _ _ w9) 19⟩ ?_;refine ym 4 ?_;refine aS [19,2,3] ?_;exact qr;intro u3 h hl4 hr5;refine aj h (fun hg1_2 h=>?_) (fun hg1_2 h=>?_);obtain ⟨v1,w1,h⟩:=zn h;refine yx hn 3 ?_;refine yd hg1_2 1 ?_;refine ys 2 ⟨lh w1⟩ ?_;refine ye [0,19,10] ?_;exact hl4 _ (zi h).symm;refine yx hn 3 ?_;refine yd hg1_2 4 ?_;refine ye [0,19,10] ?_;exact hl4 _ (zi h).symm
theorem nF (s sub:ME) (r:Int) (h:eC s sub=some r):bA prog 176 [.v (.string s),.v (.string sub)] (.v (.int .i64 r)):=mI Tryz.strings_Index_one s sub r h
theorem jn (l:Nat) {S:Type} (J:S→kO) (Y:ME→S→Option (S×Bool)) (hY:sI prog l (fun x=>.v (.string x)) Y J) (c0:ME) (c1:ME) (c2:Int) (st r:S) (h:fm Y c0 c1 c2 st=some r):Jh prog (GL mx) 174 l [.box 9 [.v (.string c0)],.box 9 [.v (.string c1)],.box 3 [.v (.int .i64 c2)]] (J st) (J r):=by unfold fm at h;refine yI 52 func174 fun g0 hn K=>?_;refine aa<|aI hn 3 [0,1,2,3,52,53,11] ?_;refine zc h rfl (fun h=>?_) (fun h=>?_);refine aa<|hpp [0,2,52,53] ?_;refine aP h (fun ((s12,s13):ME×S)=>[(0,.v (.func (.yield l) #[] #[])),(2,.box 9 [vs s12]),(52,.glob (GL mx)),(53,.inv (J s13))]) (fun (s16:S)=>[(52,.glob (GL mx)),(53,.inv (J s16))]) ?_ ?_;rintro s16 h;refine ae (bH<|sQ [1] bi (es':=[(53,.inv (J s16))]) rfl ?_);refine dS ?_;obtain rfl:=zi h;exact vh K rfl rfl rfl;rintro u17 hl18 hr19 ⟨s12,s13⟩ rr22 h ho20;refine aa<|aI hn 3 [0,2,52,53,14] ?_;refine zc h rfl (fun h=>?_) (fun h=>?_);refine ai (ae (aG (aa ?_)));obtain ⟨v3,w3,h⟩:=zn h;refine yx hn 1 ?_;refine ys 0 ⟨lg call175 (gX _ _ _ w3) 52⟩ ?_;refine ym 4 ?_;refine aS [0,2,52,53,6] ?_;refine aa (aa ?_);obtain ⟨v4,w4,v5,w5,h⟩:=cL h;refine yx hn 3 ?_;refine yS (vs v4) 0 ⟨dH _ _ _ 0 v3.2 _ underlying9 rfl rfl ⟨_,rfl⟩ w4⟩ ?_;refine yk [53] [23,20] ?_;refine ib (53,.inv (J v5.1)) (24,vb v5.2) 1 ⟨tw _ _ 53 l v4 s13 v5 hY w5 rfl rfl rfl⟩ ?_;refine aS [0,2,52,53,6,25] ?_;refine zc h rfl (fun h=>?_) (fun h=>?_);refine bH<|sQ [3] bi (es':=[(53,.inv (J v5.1))]) rfl ?_;refine dS (mq (dS (mq (dS (dS ?_)))));have h:=hr19 _ (ho20 _ (zi h).symm).symm;obtain rfl:=zi h;exact vh K rfl rfl rfl;refine ai (ae ?_);obtain ⟨v7,w7,h⟩:=zn h;refine yx hn 2 ?_;refine yS (vs v7) 1 ⟨dH _ _ _ v3.2 (s12.size:Int) _ underlying9 rfl ⟨_,rfl⟩ rfl w7⟩ ?_;refine ye [0,2,52,53] ?_;exact aL<|bf _ (zi h).symm rfl;refine aX (al (al (aY<|pp [52,53] ?_)));exact hl18 _ (ho20 _ (zi h).symm).symm;refine ai<|ae (aa<|hpp [0,1,2,3,52,53] ?_);refine aP h (fun ((s37,s38):ME×S)=>[(0,.v (.func (.yield l) #[] #[])),(1,.box 9 [vs c0]),(2,.box 9 [vs s37]),(3,.box 3 [vi c2]),(52,.glob (GL mx)),(53,.inv (J s38))]) (fun ((s41,s42):ME×S)=>[(0,.v (.func (.yield l) #[] #[])),(2,.box 9 [vs s41]),(52,.glob (GL mx)),(53,.inv (J s42))]) ?_ ?_;rintro ⟨s41,s42⟩ h;refine ae ?_;obtain ⟨v51,w51,h⟩:=zn h;refine yx hn 2 ?_;refine yk [53] [50,49] ?_;refine ib (53,.inv (J v51.1)) (51,vb v51.2) 0 ⟨tw _ _ 53 l s41 s42 v51 hY w51 rfl rfl rfl⟩ ?_;refine ye [52,53] ?_;refine sQ [1] bi (es':=[(53,.inv (J v51.1))]) rfl ?_;obtain rfl:=zi h;exact Gm K rfl rfl rfl;rintro u43 hl44 hr45 ⟨s37,s38⟩ rr48 h ho46;refine aG (aa ?_);obtain ⟨v25,w25,h⟩:=zn h;refine yx hn 2 ?_;refine ys 1 ⟨lk call176 (nF _ _ _ w25)⟩ ?_;refine aS [0,1,2,3,52,53,7] ?_;refine aa<|aI hn 2 [0,1,2,3,52,53,7,33] ?_;refine zc h rfl (fun h=>?_) (fun h=>?_);refine aX (al<|zM bB ?_);refine al (aY<|pp [0,2,52,53] ?_);exact hl44 _ (ho46 _ (zi h).symm).symm;refine ai<|ae (aa ?_);obtain ⟨v27,w27,v28,w28,h⟩:=cL h;refine yx hn 3 ?_;refine ys 0 ⟨lb w27⟩ ?_;refine yS (vs v28) 1 ⟨dH _ _ _ 0 v27 _ underlying9 rfl rfl ⟨_,rfl⟩ w28⟩ ?_;refine aS [0,1,2,3,52,53,7,8] ?_;refine aa (aa ?_);obtain ⟨v29,w29,h⟩:=zn h;refine yx hn 2 ?_;refine yk [53] [40,39] ?_;refine ib (53,.inv (J v29.1)) (41,vb v29.2) 1 ⟨tw _ _ 53 l v28 s38 v29 hY w29 rfl rfl rfl⟩ ?_;refine aS [0,1,2,3,52,53,7,42] ?_;refine zc h rfl (fun h=>?_) (fun h=>?_);refine bH<|sQ [5] bi (es':=[(53,.inv (J v29.1))]) rfl ?_;refine dS (mq (dS (mq (dS ?_))));have h:=hr45 _ (ho46 _ (zi h).symm).symm;obtain rfl:=zi h;exact vh K rfl rfl rfl;refine ai (ae ?_);obtain ⟨v31,w31,v32,w32,h⟩:=cL h;refine yx hn 4 ?_;refine ys 0 ⟨lb w31⟩ ?_;refine yS (vs v32) 1 ⟨dH _ _ _ v31 (s37.size:Int) _ underlying9 rfl ⟨_,rfl⟩ rfl w32⟩ ?_;refine ye [0,1,2,3,52,53] ?_;exact aL<|bf _ (zi h).symm rfl
theorem ep (c:Int) (r:Bool) (h:fG c=some r):bA prog 99 [.v (.int .u8 c)] (.v (.bool r)):=by unfold fG at h;refine yO 25 func99 fun g0 hn K=>?_;refine aI hn 1 [0] ?_;refine aa<|ap h (fun (s1:Bool)=>[(2,vb s1)]) ?_ ?_;rintro s1 h;exact ae (bH<|qr);intro u2 h hl3 hr4;refine aj h (fun hg1_2 h=>?_) (fun hg1_2 h=>?_);refine aj h (fun hg1_6 h=>?_) (fun hg1_6 h=>?_);refine yx hn 3 ?_;refine yd hg1_2 4 ?_;refine yd hg1_6 16 ?_;refine ye [2] ?_;exact hl3 _ (zi h).symm;refine aj h (fun hg1_9 h=>?_) (fun hg1_9 h=>?_);refine aj h (fun hg1_14 h=>?_) (fun hg1_14 h=>?_);refine yx hn 3 ?_;refine yd hg1_2 4 ?_;refine yd hg1_6 3 ?_;refine yd hg1_9 5 ?_;refine yd hg1_14 8 ?_;refine ye [2] ?_;exact hl3 _ (zi h).symm;refine aj h (fun hg1_17 h=>?_) (fun hg1_17 h=>?_);refine yx hn 3 ?_;refine yd hg1_2 4 ?_;refine yd hg1_6 3 ?_;refine yd hg1_9 5 ?_;refine yd hg1_14 3 ?_;refine yd hg1_17 5 ?_;refine ye [2] ?_;exact hl3 _ (zi h).symm;refine yx hn 3 ?_;refine yd hg1_2 4 ?_;refine yd hg1_6 3 ?_;refine yd hg1_9 5 ?_;refine yd hg1_14 3 ?_;refine yd hg1_17 5 ?_;refine ye [2] ?_;exact hl3 _ (zi h).symm;refine aj h (fun hg1_17 h=>?_) (fun hg1_17 h=>?_);refine yx hn 3 ?_;refine yd hg1_2 4 ?_;refine yd hg1_6 3 ?_;refine yd hg1_9 8 ?_;refine yd hg1_17 5 ?_;refine ye [2] ?_;exact hl3 _ (zi h).symm;refine yx hn 3 ?_;refine yd hg1_2 4 ?_;refine yd hg1_6 3 ?_;refine yd hg1_9 8 ?_;refine yd hg1_17 5 ?_;refine ye [2] ?_;exact hl3 _ (zi h).symm;refine aj h (fun hg1_9 h=>?_) (fun hg1_9 h=>?_);refine aj h (fun hg1_14 h=>?_) (fun hg1_14 h=>?_);refine yx hn 3 ?_;refine yd hg1_2 7 ?_;refine yd hg1_9 5 ?_;refine yd hg1_14 8 ?_;refine ye [2] ?_;exact hl3 _ (zi h).symm;refine aj h (fun hg1_17 h=>?_) (fun hg1_17 h=>?_);refine yx hn 3 ?_;refine yd hg1_2 7 ?_;refine yd hg1_9 5 ?_;refine yd hg1_14 3 ?_;refine yd hg1_17 5 ?_;refine ye [2] ?_;exact hl3 _ (zi h).symm;refine yx hn 3 ?_;refine yd hg1_2 7 ?_;refine yd hg1_9 5 ?_;refine yd hg1_14 3 ?_;refine yd hg1_17 5 ?_;refine ye [2] ?_;exact hl3 _ (zi h).symm;refine aj h (fun hg1_17 h=>?_) (fun hg1_17 h=>?_);refine yx hn 3 ?_;refine yd hg1_2 7 ?_;refine yd hg1_9 8 ?_;refine yd hg1_17 5 ?_;refine ye [2] ?_;exact hl3 _ (zi h).symm;refine yx hn 3 ?_;refine yd hg1_2 7 ?_;refine yd hg1_9 8 ?_;refine yd hg1_17 5 ?_;refine ye [2] ?_;exact hl3 _ (zi h).symm
theorem uI (c:Int) (r:Bool) (h:oh c=some r):bA prog 98 [.v (.int .u8 c)] (.v (.bool r)):=by unfold oh at h;refine yO 9 func98 fun g0 hn K=>?_;refine aI hn 1 [0] ?_;refine aa<|ap h (fun (s2:Bool)=>[(2,vb s2)]) ?_ ?_;rintro s2 h;exact ae (bH<|qr);intro u3 h hl4 hr5;obtain ⟨v1,w1,h⟩:=zn h;refine aj h (fun hg1_2 h=>?_) (fun hg1_2 h=>?_);refine yx hn 1 ?_;refine ys 1 ⟨lk call99 (ep _ _ w1)⟩ ?_;refine yd hg1_2 4 ?_;refine ye [2] ?_;exact hl4 _ (zi h).symm;refine yx hn 1 ?_;refine ys 1 ⟨lk call99 (ep _ _ w1)⟩ ?_;refine yd hg1_2 4 ?_;refine ye [2] ?_;exact hl4 _ (zi h).symm
theorem kM (s:ME) (r:Bool) (h:eD s=some r):bA prog 97 [.v (.string s),.v (.func (.func 98) #[] #[])] (.v (.bool r)):=by
 unfold eD at h;refine yO 18 func97 fun g0 hn K=>?_;refine aI hn 1 [0,1] ?_;refine aa<|aI hn 3 [0,1,7,8] ?_;refine aP h (fun (s9:Int)=>[(0,vs s),(1,.v (.func (.func 98) #[] #[])),(7,vi (s.size:Int)),(8,vi s9)]) (fun (():Unit)=>[]) ?_ ?_;rintro ⟨⟩ h;refine ae<|aI hn 1 [4] ?_;exact qr;rintro u12 hl13 hr14 s9 rr17 h ho15;refine aI hn 1 [0,1,7,8,9] ?_;refine aa<|zc h rfl (fun h=>?_) (fun h=>?_);refine ai<|ae (aa<|aG<|aI hn 2 [0,1,7,8,5] ?_);refine aa ?_;obtain ⟨v2,w2,v3,w3,h⟩:=cL h;refine yx hn 3 ?_;refine ys 0 ⟨lh w2⟩ ?_;refine ys 1 ⟨lk call98 (uI _ _ w3)⟩ ?_;refine aS [0,1,7,8,16] ?_;refine zc h rfl (fun h=>?_) (fun h=>?_)
 cases h
 refine ai (aL (ae ?_));obtain ⟨v5,w5,h⟩:=zn h;refine yx hn 0 ?_;refine ys 0 ⟨lb w5⟩ ?_;refine yw [8] 1 ?_;refine ye [0,1,7,8] ?_;exact bf _ (zi h).symm rfl;refine aX (al (al (aY<|pp [] ?_)));exact hl13 _ (ho15 _ (zi h).symm).symm
theorem wO (s:ME) (r:Bool) (h:rL s=some r):bA prog 70 [.v (.string s)] (.v (.bool r)):=by unfold rL at h;refine yO 27 func70 fun g0 hn K=>?_;refine aI hn 1 [0] ?_;refine aa<|ap h (fun (s5:Bool)=>[(2,vb s5)]) ?_ ?_;rintro s5 h;exact ae (bH<|qr);intro u6 h hl7 hr8;refine aj h (fun hg1_2 h=>?_) (fun hg1_2 h=>?_);refine aj h (fun hg1_7 h=>?_) (fun hg1_7 h=>?_);obtain ⟨v1,w1,h⟩:=zn h;refine aj h (fun hg1_12 h=>?_) (fun hg1_12 h=>?_);obtain ⟨v2,w2,v3,w3,h⟩:=cL h;refine aj h (fun hg1_20 h=>?_) (fun hg1_20 h=>?_);obtain ⟨v4,w4,h⟩:=zn h;refine yx hn 3 ?_;refine yd hg1_2 5 ?_;refine yd hg1_7 1 ?_;refine ys 3 ⟨lh w1⟩ ?_;refine yd hg1_12 3 ?_;refine ys 0 ⟨lb w2⟩ ?_;refine ys 3 ⟨lh w3⟩ ?_;refine yd hg1_20 1 ?_;refine ys 2 ⟨lk call97 (kM _ _ w4)⟩ ?_;refine ye [2] ?_;exact hl7 _ (zi h).symm;refine yx hn 3 ?_;refine yd hg1_2 5 ?_;refine yd hg1_7 1 ?_;refine ys 3 ⟨lh w1⟩ ?_;refine yd hg1_12 3 ?_;refine ys 0 ⟨lb w2⟩ ?_;refine ys 3 ⟨lh w3⟩ ?_;refine yd hg1_20 4 ?_;refine ye [2] ?_;exact hl7 _ (zi h).symm;refine yx hn 3 ?_;refine yd hg1_2 5 ?_;refine yd hg1_7 1 ?_;refine ys 3 ⟨lh w1⟩ ?_;refine yd hg1_12 12 ?_;refine ye [2] ?_;exact hl7 _ (zi h).symm;refine yx hn 3 ?_;refine yd hg1_2 5 ?_;refine yd hg1_7 17 ?_;refine ye [2] ?_;exact hl7 _ (zi h).symm;refine yx hn 3 ?_;refine yd hg1_2 22 ?_;refine ye [2] ?_;exact hl7 _ (zi h).symm
theorem kj (s:ME) (r:Bool) (h:dZ s=some r):fJ prog (GL mx) 69 [.v (.string s),.v (.func (.func 70) #[] #[])] (.v (.bool r)):=by
 unfold dZ at h;refine yG 13 func69 fun g0 hn K=>?_;refine cX hn 1 ?_;refine yS (.box 4 [vb false]) 0 ⟨oA (aN _ _ JI)⟩ ?_;refine aS [0,13,3,4] ?_;refine aa (aa ?_);obtain ⟨v1,w1,h⟩:=zn h;refine yx hn 1 ?_;refine yk [] [6] ?_;refine yt (7,.cloB 174 [.box 9 [vs v1.1],.box 9 [vs v1.2.1],.box 3 [vi v1.2.2]]) 0 ⟨gL _ _ 96 _ _ rfl call96 rfl rfl (kE s (⟨#[46]⟩:ME) _ w1) rfl⟩ ?_;refine aS [13,3,4,7] ?_;refine aG<|hpp [7,13,3,4] ?_;refine kX h 174 7 8 14 _ [13,3,4] call174 (fun (():Unit)=>[(13,.glob (GL mx)),(3,.box 106 [.v (.func (.func 70) #[] #[])]),(4,.box 4 [.v (.bool false)])]) (fun (():Unit)=>[]) (fun l J Y hY t t' h=>jn mx l J Y hY v1.1 v1.2.1 v1.2.2 t t' h) hn rfl (fun _=>rfl) (fun _=>rfl) (fun _=>rfl) rfl rfl (fun _=>⟨rfl,rfl⟩) rfl (kW 13 rfl) ?_ ?_ ?_;rintro kk g0 hn K x ⟨⟩ u h;refine xw (es':=[(8,vs x),(13,.glob (GL mx)),(3,.box 106 [.v (.func (.func 70) #[] #[])]),(4,.box 4 [vb false]),(13,.v (kk.tm.getD 13 undef)),(3,.v (kk.tm.getD 3 undef)),(4,.v (kk.tm.getD 4 undef)),(14,.inv kk.ready)]) rfl<|yy hn 1 [13,3,4,14,5,13,3,4] ?_;refine pp [13,3,4,5,13,3,4,14] ?_;refine nd (es:=[(13,.glob (GL mx)),(3,.box 106 [.v (.func (.func 70) #[] #[])]),(4,.box 4 [vb false]),(5,vs x),(13,.v (kk.tm.getD 13 undef)),(3,.v (kk.tm.getD 3 undef)),(4,.v (kk.tm.getD 4 undef))]) 14 rfl<|aG (aa ?_);obtain ⟨v2,w2,h⟩:=zn h;refine yx hn 2 ?_;refine ys 1 ⟨lk call70 (wO _ _ w2)⟩ ?_;refine aS [13,3,4,14,12,13,3,4] ?_;refine zc h rfl (fun h=>?_) (fun h=>?_)
 cases h
 refine ai (aL<|pp [13,3,4,13,3,4,14] ?_);obtain rfl:=zi h;exact nu 14 [13,3,4] _ rfl rfl bi;rintro D ⟨⟩ h;refine aL (ae<|aI hn 1 [13,4] ?_);exact qr;rintro D ⟨⟩ h
 cases h
theorem cK (s:ME) (r:Bool) (h:eY s=some r):fJ prog (GL mx) 39 [.v (.string s)] (.v (.bool r)):=by unfold eY at h;refine yG 10 func39 fun g0 hn K=>?_;refine aI hn 1 [0,10] ?_;refine aa<|ap h (fun (s2:Bool)=>[(10,.glob (GL mx)),(2,vb s2)]) ?_ ?_;rintro s2 h;exact ae (bH<|qr);intro u3 h hl4 hr5;refine aj h (fun hg1_3 h=>?_) (fun hg1_3 h=>?_);obtain ⟨v1,w1,h⟩:=zn h;refine yx hn 4 ?_;refine yd hg1_3 1 ?_;refine ys 2 ⟨lg call69 (kj _ _ _ w1) 10⟩ ?_;refine ye [10,2] ?_;exact hl4 _ (zi h).symm;refine yx hn 4 ?_;refine yd hg1_3 4 ?_;refine ye [10,2] ?_;exact hl4 _ (zi h).symm
theorem fo (s:ME) (r:ME) (h:gg s=some r):bA prog 71 [.v (.string s)] (.v (.string r)):=by unfold gg at h;refine yO 29 func71 fun g0 hn K=>?_;refine aI hn 1 [0] ?_;refine aa ?_;obtain ⟨v1,w1,h⟩:=zn h;refine yx hn 1 ?_;refine ys 0 ⟨lU w1⟩ ?_;refine ya 0 ?_;refine aS [3] ?_;refine aa<|cX hn 1 ?_;refine yS (vi (v1.length:Int)) 1 ⟨qP _ _ _ underlying30 rfl (List.length_map _)⟩ ?_;refine aS [3,8,9,10] ?_;refine aP h (fun ((s40,s41):(List Int)×Int)=>[(3,.mkr 5 (map (int .u8) s40)),(8,.same (.slot 3)),(9,vi (v1.length:Int)),(10,vi s41)]) (fun (s57:(List Int))=>[(3,.mkr 5 (map (int .u8) s57))]) ?_ ?_;rintro s57 h;refine ae (aa ?_);obtain ⟨v79,w79,h⟩:=zn h;refine yx hn 0 ?_;refine ym 0 ?_;refine ys 1 ⟨lM w79⟩ ?_;refine aS [2] ?_;exact qr;rintro u58 hl59 hr60 ⟨s40,s41⟩ rr63 h ho61;refine aI hn 1 [3,8,9,10,11] ?_;refine aa<|zc h rfl (fun h=>?_) (fun h=>?_);refine ai<|ae (aa<|ap h (fun (s70:(List Int))=>[(3,.mkr 5 (map (int .u8) s70)),(8,.same (.slot 3)),(9,vi (v1.length:Int)),(10,vi s41)]) ?_ ?_);rintro s70 h;refine ae ?_;obtain ⟨v22,w22,h⟩:=zn h;refine yx hn 0 ?_;refine ys 0 ⟨lb w22⟩ ?_;refine yw [10] 1 ?_;refine ye [3,8,9,10] ?_;exact bf _ (zi h).symm rfl;intro u71 h hl72 hr73;refine aG (aa ?_);obtain ⟨v3,w3,v4,w4,h⟩:=cL h;refine yx hn 1 ?_;refine yS (.eref (.slot 3) (v3 * 1)) 0 ⟨Bt _ _ _ _ _ _ _ underlying30 pt rfl rfl rfl (bL w3).1 (Ej (bL w3).2) rfl⟩ ?_;refine yS (.v (.int .u8 v4)) 2 ⟨BI _ _ _ _ _ _ underlying5 rfl rfl rfl (Cs w4)⟩ ?_;refine aS [3,8,9,10,4,5] ?_;refine aa<|ap h (fun (s74:Bool)=>[(3,.mkr 5 (map (int .u8) s40)),(8,.same (.slot 3)),(9,vi (v1.length:Int)),(10,vi s41),(4,vi s41),(5,.v (.int .u8 v4)),(20,vb s74)]) ?_ ?_;rintro s74 h;refine ae<|zc h rfl (fun h=>?_) (fun h=>?_);obtain ⟨v10,w10,v11,w11,v12,w12,h⟩:=mJ h;refine yx hn 3 ?_;refine ys 0 ⟨lb w10⟩ ?_;refine yS (.eref (.slot 3) (v11 * 1)) 0 ⟨Bt _ _ _ _ _ _ _ underlying30 pt rfl rfl rfl (bL w11).1 (Ej (bL w11).2) rfl⟩ ?_;refine yk [3] [25,24] ?_;refine yt (3,.mkr 5 (map (int .u8) v12)) 0 ⟨Ak _ _ _ _ _ _ _ pt rfl rfl rfl (Jk (bL w11).2) (GU (f:=int .u8) (ay w12))⟩ ?_;refine ye [3,8,9,10] ?_;exact aL<|hl72 _ (zi h).symm;refine ai (aL<|pp [3,8,9,10] ?_);exact hl72 _ (zi h).symm;intro u75 h hl76 hr77;refine aj h (fun hg5_2 h=>?_) (fun hg5_2 h=>?_);refine yx hn 3 ?_;refine yd hg5_2 3 ?_;refine ye [3,8,9,10,4,5,20] ?_;exact hl76 _ (zi h).symm;refine yx hn 3 ?_;refine yd hg5_2 3 ?_;refine ye [3,8,9,10,4,5,20] ?_;exact hl76 _ (zi h).symm;refine aX (al (al (aY<|pp [3] ?_)));exact hl59 _ (ho61 _ (zi h).symm).symm
theorem tl (a:ME) (b:ME) (r:Bool) (h:ls a b=some r):bA prog 40 [.v (.string a),.v (.string b)] (.v (.bool r)):=by unfold ls at h;refine yO 10 func40 fun g0 hn K=>?_;refine aI hn 1 [0,1] ?_;refine aa ?_;obtain ⟨v1,w1,v2,w2,h⟩:=cL h;refine yx hn 1 ?_;refine ys 1 ⟨lk call71 (fo _ _ w1)⟩ ?_;refine ys 2 ⟨lk call71 (fo _ _ w2)⟩ ?_;refine aS [4] ?_;exact qr
theorem pX (s:ME) (least:Int) (r:Bool) (h:ml s least=some r):bA prog 49 [.v (.string s),.v (.int .u8 least)] (.v (.bool r)):=by
 unfold ml at h;refine yO 23 func49 fun g0 hn K=>?_;refine aI hn 1 [0,1] ?_;refine aa<|aI hn 3 [0,1,7,8] ?_;refine aP h (fun (s17:Int)=>[(0,vs s),(1,.v (.int .u8 least)),(7,vi (s.size:Int)),(8,vi s17)]) (fun (():Unit)=>[]) ?_ ?_;rintro ⟨⟩ h;refine ae<|aI hn 1 [4] ?_;exact qr;rintro u24 hl25 hr26 s17 rr29 h ho27;refine aI hn 1 [0,1,7,8,9] ?_;refine aa<|zc h rfl (fun h=>?_) (fun h=>?_);refine ai<|ae (aa<|aG<|aI hn 2 [0,1,7,8,5] ?_);refine aa<|ap h (fun (s31:Bool)=>[(0,vs s),(1,.v (.int .u8 least)),(7,vi (s.size:Int)),(8,vi s17),(21,vb s31)]) ?_ ?_;rintro s31 h;refine ae<|zc h rfl (fun h=>?_) (fun h=>?_)
 cases h
 refine ai (aL (ae ?_));obtain ⟨v9,w9,h⟩:=zn h;refine yx hn 0 ?_;refine ys 0 ⟨lb w9⟩ ?_;refine yw [8] 1 ?_;refine ye [0,1,7,8] ?_;exact bf _ (zi h).symm rfl;intro u32 h hl33 hr34;obtain ⟨v2,w2,h⟩:=zn h;refine aj h (fun hg4_5 h=>?_) (fun hg4_5 h=>?_);refine yx hn 2 ?_;refine ys 3 ⟨lh w2⟩ ?_;refine yd hg4_5 5 ?_;refine ye [0,1,7,8,21] ?_;exact hl33 _ (zi h).symm;obtain ⟨v3,w3,h⟩:=zn h;refine yx hn 2 ?_;refine ys 3 ⟨lh w2⟩ ?_;refine yd hg4_5 2 ?_;refine ys 2 ⟨lh w3⟩ ?_;refine ye [0,1,7,8,21] ?_;exact hl33 _ (zi h).symm;refine aX (al (al (aY<|pp [] ?_)));exact hl25 _ (ho27 _ (zi h).symm).symm
theorem ox (s:ME) (r:Bool) (h:qT s=some r):bA prog 41 [.v (.string s)] (.v (.bool r)):=by unfold qT at h;refine yO 15 func41 fun g0 hn K=>?_;refine aI hn 1 [0] ?_;refine aa<|ap h (fun (s2:Bool)=>[(2,vb s2)]) ?_ ?_;rintro s2 h;exact ae (bH<|qr);intro u3 h hl4 hr5;refine aj h (fun hg1_3 h=>?_) (fun hg1_3 h=>?_);refine aj h (fun hg1_8 h=>?_) (fun hg1_8 h=>?_);obtain ⟨v1,w1,h⟩:=zn h;refine yx hn 4 ?_;refine yd hg1_3 5 ?_;refine yd hg1_8 1 ?_;refine ys 2 ⟨lk call49 (pX _ _ _ w1)⟩ ?_;refine ye [2] ?_;exact hl4 _ (zi h).symm;refine yx hn 4 ?_;refine yd hg1_3 5 ?_;refine yd hg1_8 4 ?_;refine ye [2] ?_;exact hl4 _ (zi h).symm;refine yx hn 4 ?_;refine yd hg1_3 9 ?_;refine ye [2] ?_;exact hl4 _ (zi h).symm
theorem qh (c:ba) (r:Int) (h:mQ c=some r):fJ prog (GL mx) 19 [.agg (ba.s c)] (.v (.int .i64 r)):=by
 unfold mQ at h;refine yG 65 func19 fun g0 hn K=>?_;refine aI hn 2 [65,1] ?_;refine aa<|ap h (fun (s4:Bool)=>[(65,.glob (GL mx)),(1,.box 24 (ba.b c)),(3,vb s4)]) ?_ ?_;rintro s4 h;refine ae (aa<|ap h (fun (s8:Bool)=>[(65,.glob (GL mx)),(1,.box 24 (ba.b c)),(3,vb s4),(4,vb s8)]) ?_ ?_);rintro s8 h;refine ae (aa<|ap h (fun (s14:Bool)=>[(65,.glob (GL mx)),(1,.box 24 (ba.b c)),(3,vb s4),(4,vb s8),(5,vb s14)]) ?_ ?_);rintro s14 h;refine ae (aa<|ap h (fun (s18:Bool)=>[(65,.glob (GL mx)),(3,vb s4),(4,vb s8),(5,vb s14),(6,vb s18)]) ?_ ?_);rintro s18 h;refine ae (aa<|aa<|ap h (fun (s22:Bool)=>[(65,.glob (GL mx)),(64,vb s22)]) ?_ ?_);rintro s22 h;refine ae<|zc h rfl (fun h=>?_) (fun h=>?_)
 cases h
 refine ai (ae<|aI hn 1 [65,2] ?_);exact qr;intro u23 h hl24 hr25;refine aj h (fun hg5_2 h=>?_) (fun hg5_2 h=>?_);refine yx hn 3 ?_;refine yd hg5_2 11 ?_;refine ye [65,64] ?_;exact hl24 _ (zi h).symm;refine aj h (fun hg5_6 h=>?_) (fun hg5_6 h=>?_);refine yx hn 3 ?_;refine yd hg5_2 4 ?_;refine yd hg5_6 7 ?_;refine ye [65,64] ?_;exact hl24 _ (zi h).symm;refine aj h (fun hg5_10 h=>?_) (fun hg5_10 h=>?_);refine yx hn 3 ?_;refine yd hg5_2 4 ?_;refine yd hg5_6 4 ?_;refine yd hg5_10 3 ?_;refine ye [65,64] ?_;exact hl24 _ (zi h).symm;refine yx hn 3 ?_;refine yd hg5_2 4 ?_;refine yd hg5_6 4 ?_;refine yd hg5_10 3 ?_;refine ye [65,64] ?_;exact hl24 _ (zi h).symm;intro u19 h hl20 hr21;refine aj h (fun hg4_3 h=>?_) (fun hg4_3 h=>?_);refine yx hn 4 ?_;refine yd hg4_3 5 ?_;refine ye [65,3,4,5,6] ?_;exact hl20 _ (zi h).symm;refine yx hn 4 ?_;refine yd hg4_3 5 ?_;refine ye [65,3,4,5,6] ?_;exact hl20 _ (zi h).symm;intro u15 h hl16 hr17;obtain ⟨v12,w12,h⟩:=zn h;refine aj h (fun hg3_3 h=>?_) (fun hg3_3 h=>?_);obtain ⟨v13,w13,h⟩:=zn h;refine yx hn 2 ?_;refine ys 1 ⟨lk call41 (ox _ _ w12)⟩ ?_;refine yd hg3_3 2 ?_;refine ys 2 ⟨lk call41 (ox _ _ w13)⟩ ?_;refine ye [65,1,3,4,5] ?_;exact hl16 _ (zi h).symm;refine yx hn 2 ?_;refine ys 1 ⟨lk call41 (ox _ _ w12)⟩ ?_;refine yd hg3_3 5 ?_;refine ye [65,1,3,4,5] ?_;exact hl16 _ (zi h).symm;intro u9 h hl10 hr11;refine aj h (fun hg2_3 h=>?_) (fun hg2_3 h=>?_);refine yx hn 4 ?_;refine yd hg2_3 5 ?_;refine ye [65,1,3,4] ?_;exact hl10 _ (zi h).symm;refine yx hn 4 ?_;refine yd hg2_3 5 ?_;refine ye [65,1,3,4] ?_;exact hl10 _ (zi h).symm;intro u5 h hl6 hr7;obtain ⟨v1,w1,h⟩:=zn h;refine aj h (fun hg1_4 h=>?_) (fun hg1_4 h=>?_);obtain ⟨v2,w2,h⟩:=zn h;refine aj h (fun hg1_10 h=>?_) (fun hg1_10 h=>?_);obtain ⟨v3,w3,h⟩:=zn h;refine yx hn 1 ?_;refine yS (.ptr 1 0) 1 ⟨cv _ _ _ _ 2 1 0 0 1 underlying22 wL rfl rfl bB bB⟩ ?_;refine ys 1 ⟨lg call39 (cK _ _ _ w1) 65⟩ ?_;refine yd hg1_4 1 ?_;refine yS (.ptr 1 1) 1 ⟨cv _ _ _ _ 2 1 0 1 1 underlying22 wL rfl rfl bB bB⟩ ?_;refine ys 2 ⟨lg call39 (cK _ _ _ w2) 65⟩ ?_;refine yd hg1_10 1 ?_;refine yS (.ptr 1 0) 2 ⟨cv _ _ _ _ 2 1 0 0 1 underlying22 wL rfl rfl bB bB⟩ ?_;refine yS (.ptr 1 1) 1 ⟨cv _ _ _ _ 2 1 0 1 1 underlying22 wL rfl rfl bB bB⟩ ?_;refine ys 3 ⟨lk call40 (tl _ _ _ w3)⟩ ?_;refine ye [65,1,3] ?_;exact hl6 _ (zi h).symm;refine yx hn 1 ?_;refine yS (.ptr 1 0) 1 ⟨cv _ _ _ _ 2 1 0 0 1 underlying22 wL rfl rfl bB bB⟩ ?_;refine ys 1 ⟨lg call39 (cK _ _ _ w1) 65⟩ ?_;refine yd hg1_4 1 ?_;refine yS (.ptr 1 1) 1 ⟨cv _ _ _ _ 2 1 0 1 1 underlying22 wL rfl rfl bB bB⟩ ?_;refine ys 2 ⟨lg call39 (cK _ _ _ w2) 65⟩ ?_;refine yd hg1_10 10 ?_;refine ye [65,1,3] ?_;exact hl6 _ (zi h).symm;refine yx hn 1 ?_;refine yS (.ptr 1 0) 1 ⟨cv _ _ _ _ 2 1 0 0 1 underlying22 wL rfl rfl bB bB⟩ ?_;refine ys 1 ⟨lg call39 (cK _ _ _ w1) 65⟩ ?_;refine yd hg1_4 16 ?_;refine ye [65,1,3] ?_;exact hl6 _ (zi h).symm
theorem Bq (challenge:ME) (r:bS) (h:vB challenge=some r):bA prog 20 [.v (.string challenge)] (.agg (bS.b r)):=by unfold vB at h;refine yO 5 func20 fun g0 hn K=>?_;refine cX hn 0 ?_;refine yS (.box 53 [vi 0,vs z0,vb false,vs z0,vs z0,vz,vb false,vz,vs z0,vb false]) 0 ⟨oA (aN _ _ DP)⟩ ?_;refine aS [0,2] ?_;refine cX hn 1 ?_;refine yS (.agg [vi 0,vs z0,vb false,vs z0,vs z0,vz,vb false,vz,vs challenge,vb false]) 1 ⟨bt _ _ _ _ [1,1,3,1,1,1,1,1] _ _ underlying53 DP (Kx _ underlying53) (.copy _ (.copy _ kh.nil)) rfl rfl rfl⟩ ?_;refine aS [2] ?_;exact qr
theorem fe (l:(List aE)) (r:(List aE)) (h:dL l=some r):bA prog 50 [.fl .shr 3 (flatten (map aE.enc l))] (.fl (.own 50) 3 (flatten (map aE.enc r))):=by unfold dL at h;refine yO 5 func50 fun g0 hn K=>?_;refine aI hn 1 [0] ?_;refine aa ?_;obtain ⟨v1,w1,h⟩:=zn h;refine yx hn 1 ?_;refine yS (.fl (.own 50) 3 (flatten (map aE.enc v1))) 0 ⟨nO _ _ _ _ Iq rfl rfl (lp aE.len _) w1 (congrArg (fun l=>flatten (map _ l)) (lq w1))⟩ ?_;refine ya 0 ?_;refine aS [2] ?_;exact qr
theorem cS (l:(List Int)) (r:(List Int)) (h:cO l=some r):bA prog 34 [.fl .shr 1 (map (int .u8) l)] (.fl (.own 5) 1 (map (int .u8) r)):=by unfold cO at h;refine yO 5 func34 fun g0 hn K=>?_;refine aI hn 1 [0] ?_;refine aa ?_;obtain ⟨v1,w1,h⟩:=zn h;refine yx hn 1 ?_;refine yS (.fl (.own 5) 1 (map (int .u8) v1)) 0 ⟨nO _ _ _ _ mU rfl rfl (eK _) w1 (congrArg (map _) (lq w1))⟩ ?_;refine ya 0 ?_;refine aS [2] ?_;exact qr
theorem mT (m:aF) (r:aF) (h:mg m=some r):bA prog 56 [.agg (aF.s m)] (.agg (aF.b r)):=by unfold mg at h;refine yO 12 func56 fun g0 hn K=>?_;refine cX hn 1 ?_;refine yS (.box 66 [vb false,vs z0,vs z0,vz,vz,vb false,vs z0,vi 0]) 0 ⟨oA (aN _ _ tn)⟩ ?_;refine aS [1,2] ?_;refine aa ?_;obtain ⟨v1,w1,h⟩:=zn h;refine yx hn 2 ?_;refine ys 1 ⟨lk call50 (fe _ _ w1)⟩ ?_;refine yk [5,1] [6] ?_;refine yt (1,.box 66 [vb m.LL.Mc,vs m.LL.LX,vs m.LL.LH,.fl (.own 50) 3 (flatten (map aE.enc v1)),fb m.Lz,vb m.Mr,vs m.LP,vi m.At]) 0 ⟨aD _ _ _ _ _ _ _ _ GT rfl rfl rfl (zl rfl) rfl rfl⟩ ?_;refine aS [1,2] ?_;refine aa ?_;obtain ⟨v2,w2,h⟩:=zn h;refine yx hn 2 ?_;refine ys 1 ⟨lk call34 (cS _ _ w2)⟩ ?_;refine yk [9,1] [10] ?_;refine yt (1,.box 66 (aF.b ({ m with To:=v1,Lz:=v2 }))) 0 ⟨aD _ _ _ _ _ _ _ _ ri rfl rfl rfl (zl rfl) rfl rfl⟩ ?_;refine aS [1,2] ?_;refine cX hn 0 ?_;refine yk [1] [] ?_;refine yt (11,.agg (aF.b ({ m with To:=v1,Lz:=v2 }))) 0 ⟨bO _ _ _ _ underlying66 rfl qE rfl rfl⟩ ?_;refine yk [11,2] [] ?_;refine yt (2,.box 66 (aF.b ({ m with To:=v1,Lz:=v2 }))) 0 ⟨aD _ _ _ _ _ _ _ _ qE rfl rfl rfl (zl rfl) rfl rfl⟩ ?_;refine aS [2] ?_;exact qr
theorem ji (l:(List Int)) (r:(List Int)) (h:fQ l=some r):bA prog 33 [.fl .shr 1 (map (int .i64) l)] (.fl (.own 3) 1 (map (int .i64) r)):=by unfold fQ at h;refine yO 5 func33 fun g0 hn K=>?_;refine aI hn 1 [0] ?_;refine aa ?_;obtain ⟨v1,w1,h⟩:=zn h;refine yx hn 1 ?_;refine yS (.fl (.own 3) 1 (map (int .i64) v1)) 0 ⟨nO _ _ _ _ qa rfl rfl (eK _) w1 (congrArg (map _) (lq w1))⟩ ?_;refine ya 0 ?_;refine aS [2] ?_;exact qr
theorem sY (p_r:bl) (r:bl) (h:qZ p_r=some r):bA prog 73 [.agg (bl.s p_r)] (.agg (bl.b r)):=by unfold qZ at h;refine yO 16 func73 fun g0 hn K=>?_;refine cX hn 1 ?_;refine yS (.box 96 [vi 0,vb false,vs z0,vs z0,vz,vz,vb false,vs z0,vi 0,vi 0,vz,vi 0,vi 0,vi 0,vz]) 0 ⟨oA (aN _ _ Bh)⟩ ?_;refine aS [1,2] ?_;refine aa ?_;obtain ⟨v1,w1,h⟩:=zn h;refine yx hn 2 ?_;refine ys 1 ⟨lk call56 (mT _ _ w1)⟩ ?_;refine yk [5,1] [6] ?_;refine yt (1,.box 96 [vi p_r.LU,vb v1.LL.Mc,vs v1.LL.LX,vs v1.LL.LH,.fl (.own 50) 3 (flatten (map aE.enc v1.To)),.fl (.own 5) 1 (map (int .u8) v1.Lz),vb v1.Mr,vs v1.LP,vi v1.At,vi p_r.Id,fi p_r.LQ,vi p_r.Mh,vi p_r.Me,vi p_r.Mf,fb p_r.LF]) 0 ⟨aD _ _ _ _ _ _ _ _ qE rfl rfl rfl (zl rfl) rfl rfl⟩ ?_;refine aS [1,2] ?_;refine aa ?_;obtain ⟨v2,w2,h⟩:=zn h;refine yx hn 2 ?_;refine ys 1 ⟨lk call33 (ji _ _ w2)⟩ ?_;refine yk [9,1] [10] ?_;refine yt (1,.box 96 [vi p_r.LU,vb v1.LL.Mc,vs v1.LL.LX,vs v1.LL.LH,.fl (.own 50) 3 (flatten (map aE.enc v1.To)),.fl (.own 5) 1 (map (int .u8) v1.Lz),vb v1.Mr,vs v1.LP,vi v1.At,vi p_r.Id,.fl (.own 3) 1 (map (int .i64) v2),vi p_r.Mh,vi p_r.Me,vi p_r.Mf,fb p_r.LF]) 0 ⟨aD _ _ _ _ _ _ _ _ FP rfl rfl rfl (zl rfl) rfl rfl⟩ ?_;refine aS [1,2] ?_;refine aa ?_;obtain ⟨v3,w3,h⟩:=zn h;refine yx hn 2 ?_;refine ys 1 ⟨lk call34 (cS _ _ w3)⟩ ?_;refine yk [13,1] [14] ?_;refine yt (1,.box 96 (bl.b ({ p_r with LZ:=v1,LQ:=v2,LF:=v3 }))) 0 ⟨aD _ _ _ _ _ _ _ _ ri rfl rfl rfl (zl rfl) rfl rfl⟩ ?_;refine aS [1,2] ?_;refine cX hn 0 ?_;refine yk [1] [] ?_;refine yt (15,.agg (bl.b ({ p_r with LZ:=v1,LQ:=v2,LF:=v3 }))) 0 ⟨bO _ _ _ _ underlying96 rfl BX rfl rfl⟩ ?_;refine yk [15,2] [] ?_;refine yt (2,.box 96 (bl.b ({ p_r with LZ:=v1,LQ:=v2,LF:=v3 }))) 0 ⟨aD _ _ _ _ _ _ _ _ BX rfl rfl rfl (zl rfl) rfl rfl⟩ ?_;refine aS [2] ?_;exact qr
theorem ij (l:(List bl)) (r:(List bl)) (h:dt l=some r):bA prog 72 [.fr .shr true 15 (flatten (map bl.ienc l)),.v (.func (.func 73) #[] #[])] (.fr (.own 96) false 15 (flatten (map bl.ienc r))):=by unfold dt at h;refine yO 22 func72 fun g0 hn K=>?_;refine aI hn 1 [0,1] ?_;refine aI hn 1 [0,1,5] ?_;refine aa<|aI hn 3 [1,5,8,9,10] ?_;refine eN (fs:=[_,(5,.fr (.own 96) false 15 (flatten (map bl.ienc []))),_,_,_]) (.same _ (.sub _ (ew 96 false 15) rfl (.same _ (.same _ (.same _ .nil)))))<|aP h (fun ((s10,s11):(List bl)×Int)=>[(1,.v (.func (.func 73) #[] #[])),(5,.fr (.own 96) false 15 (flatten (map bl.ienc s10))),(8,.fr .shr true 15 (flatten (map bl.ienc l))),(9,vi (l.length:Int)),(10,vi s11)]) (fun (s13:(List bl))=>[(5,.fr (.own 96) false 15 (flatten (map bl.ienc s13)))]) ?_ ?_;rintro s13 h;refine ae<|cX hn 0 ?_;refine ym 0 ?_;refine ya 0 ?_;refine aS [4] ?_;exact qr;rintro u14 hl15 hr16 ⟨s10,s11⟩ rr19 h ho17;refine aI hn 1 [1,5,8,9,10,11] ?_;refine aa<|zc h rfl (fun h=>?_) (fun h=>?_);refine ai<|ae (aa<|aG (aa ?_));obtain ⟨v2,w2,v3,w3,h⟩:=cL h;refine yx hn 0 ?_;refine ys 0 ⟨lI w2⟩ ?_;refine yS (.agg (bl.s v3)) 0 ⟨dp _ _ _ _ _ _ _ _ underlying96 rfl BX rfl rfl (dR bl.ilen w3) jA rfl bB⟩ ?_;refine yS (.box 96 [vi 0,vb false,vs z0,vs z0,vz,vz,vb false,vs z0,vi 0,vi 0,vz,vi 0,vi 0,vi 0,vz]) 1 ⟨oA (aN _ _ Bh)⟩ ?_;refine aS [1,5,8,9,10,7] ?_;obtain ⟨v4,w4,v5,w5,h⟩:=cL h;refine yx hn 0 ?_;refine ym 2 ?_;refine ys 0 ⟨lk call73 (sY _ _ w4)⟩ ?_;refine yk [17] [] ?_;refine yt (18,.fr (.own 96) false 15 (flatten (map bl.ienc [v4]))) 0 ⟨de _ _ _ 15 (.agg #[.int .i64 0,.bool false,.string .empty,.string .empty,.slice none 0 0,.slice none 0 0,.bool false,.string .empty,.int .i64 0,.int .i64 0,.slice none 0 0,.int .i64 0,.int .i64 0,.int .i64 0,.slice none 0 0]) false _ _ underlying82 BX Bh rfl jA rfl bB bB⟩ ?_;refine yk [14] [18] ?_;refine ib (14,.any) (19,.fr (.own 96) false 15 (flatten (map bl.ienc v5))) 0 ⟨iu _ _ _ _ _ IW rfl rfl (br bl.ilen _) (br bl.ilen _) w5 (dv (dV w5)) bB bB⟩ ?_;refine ya 0 ?_;refine ye [1,8,9,10,5] ?_;refine aL (ae ?_);obtain ⟨v6,w6,h⟩:=zn h;refine yx hn 0 ?_;refine ys 0 ⟨lb w6⟩ ?_;refine yw [10] 1 ?_;refine ye [1,8,9,5,10] ?_;refine pp [1,5,8,9,10] ?_;exact bf _ (zi h).symm rfl;refine aX (al (al (aY<|pp [5] ?_)));exact hl15 _ (ho17 _ (zi h).symm).symm
theorem rz (d:ao) (r:((List bl)×Int×ao)) (h:jM d=some r):mp prog 42 [.box 84 (ao.b d)] [.box 84 (ao.b r.2.2)] (.tup [.fr (.own 96) false 15 (flatten (map bl.ienc r.1)),.v (.int .i64 r.2.1)]):=by
 unfold jM at h;refine yP 13 func42 fun G H g0 hn K=>?_;refine aI hn 2 [0,0] ?_;refine aa<|aI hn 4 [0,7,0] ?_;refine zc h rfl (fun h=>?_) (fun h=>?_)
 cases h
 refine ai<|ae (aa ?_);obtain ⟨v2,w2,h⟩:=zn h;refine yx hn 4 ?_;refine ys 0 ⟨lk call72 (ij _ _ w2)⟩ ?_;refine ya 1 ?_;refine aS [0,2,3,0] ?_;exact qr
theorem yM (r:aM) (h:ua  = some r):bA prog 74 [] (.agg (aM.b r)):=by unfold ua at h;refine yO 2 func74 fun g0 hn K=>?_;refine cX hn 0 ?_;refine yS (.box 40 [vz,vi 0,vz,vz,vi 0,vz]) 0 ⟨oA (aN _ _ yL)⟩ ?_;refine aS [0] ?_;refine cX hn 0 ?_;refine yS (.agg [vz,vi 0,vz,vz,vi (-1),vz]) 1 ⟨bt _ _ _ _ [1,1,1,1,1,1] _ _ underlying40 yL (Kd _ underlying40) (.copy _ kh.nil) rfl rfl rfl⟩ ?_;refine aS [0] ?_;exact qr
theorem xj (l:(List bl)) (r:(aM×Int)) (h:rO l=some r):bA prog 43 [.fr .shr true 15 (flatten (map bl.ienc l))] (.tup [.agg (aM.b r.1),.v (.int .i64 r.2)]):=by
 unfold rO at h;refine yO 27 func43 fun g0 hn K=>?_;refine cX hn 0 ?_;refine yS (.box 40 [vz,vi 0,vz,vz,vi 0,vz]) 1 ⟨oA (aN _ _ yL)⟩ ?_;refine aS [0,2] ?_;refine aa ?_;obtain ⟨v1,w1,h⟩:=zn h;refine yx hn 0 ?_;refine ys 0 ⟨lk call74 (yM _ w1)⟩ ?_;refine yS (.box 40 [vz,vi 0,vz,vz,vi 0,vz]) 0 ⟨oA (aN _ _ yL)⟩ ?_;refine yk [7,4] [] ?_;refine yt (4,.box 40 (aM.b v1)) 0 ⟨aD _ _ _ _ _ _ _ _ tv rfl rfl rfl (zl rfl) rfl rfl⟩ ?_;refine aS [0,2,4] ?_;refine aa<|aI hn 3 [0,2,4,8,9,10] ?_;refine aP h (fun (():Unit)=>[(0,.fr .shr true 15 (flatten (map bl.ienc l))),(2,.box 40 [vz,vi 0,vz,vz,vi 0,vz]),(4,.box 40 (aM.b v1)),(8,.fr .shr true 15 (flatten (map bl.ienc l))),(9,vi (l.length:Int)),(10,vi 0)]) (fun (():Unit)=>[(0,.fr .shr true 15 (flatten (map bl.ienc l))),(2,.box 40 [vz,vi 0,vz,vz,vi 0,vz]),(4,.box 40 (aM.b v1))]) ?_ ?_;rintro ⟨⟩ h;refine ae<|cX hn 0 ?_;refine yk [4] [] ?_;refine yt (24,.agg (aM.b v1)) 2 ⟨bO _ _ _ _ underlying40 rfl tv rfl rfl⟩ ?_;refine yk [24,2] [] ?_;refine yt (2,.box 40 (aM.b v1)) 1 ⟨aD _ _ _ _ _ _ _ _ tv rfl rfl rfl (zl rfl) rfl rfl⟩ ?_;refine aS [2,3] ?_;exact qr;rintro u6 hl7 hr8 ⟨⟩ rr11 h ho9;refine aI hn 1 [0,2,4,8,9,10,11] ?_;refine aa<|zc h rfl (fun h=>?_) (fun h=>?_)
 cases h
 refine aX (al (al (aY<|pp [0,2,4] ?_)));exact hl7 _ (ho9 _ (zi h).symm).symm
theorem nh (u:Nat→Value) (d:ao) (r:Int) (h:fL d=some r):mp prog 45 [.box 84 [.v (.int .i64 d.limit),.v (u 1),.v (.int .i64 d.used),.v (.int .i64 d.safe),.v (.int .i64 d.kept),.v (.int .i64 d.life),.v (.bool d.off),.v (.int .i64 d.trip),.v (.int .i64 d.tripKeep)]] [.box 84 [.v (.int .i64 d.limit),.v (u 1),.v (.int .i64 d.used),.v (.int .i64 d.safe),.v (.int .i64 d.kept),.v (.int .i64 d.life),.v (.bool d.off),.v (.int .i64 d.trip),.v (.int .i64 d.tripKeep)]] (.v (.int .i64 r)):=by unfold fL at h;refine yP 7 func45 fun G H g0 hn K=>?_;refine aI hn 1 [0,0] ?_;refine aI hn 5 [0,2,0] ?_;exact qr
theorem sV (q:Option Nat) (s:ab) (r:(Int×ab)) (h:lA s=some r):mp prog 21 [.box 62 (ab.b q s)] [.box 62 (ab.b q r.2)] (.v (.int .i64 r.1)):=by
 unfold lA at h;refine yP 103 func21 fun G H g0 hn K=>?_;refine aI hn 1 [0,0] ?_;refine aa ?_;obtain ⟨v1,w1,h⟩:=zn h;refine yx hn 4 ?_;refine yk [0] [17] ?_;refine ib (0,.box 62 (ab.b q ({ s with diary:=v1.2.2 }))) (18,.tup [.fr (.own 96) false 15 (flatten (map bl.ienc v1.1)),vi v1.2.1]) 0 ⟨tZ _ _ 18 42 0 8 [] _ _ rfl call42 rfl (.inl rfl) rfl rfl (rz s.diary _ w1) rfl rfl⟩ ?_;refine ym 0 ?_;refine mL 1 ?_;refine ya 1 ?_;refine aS [0,3,4,0] ?_;refine aa<|aI hn 2 [0,3,4,22,0] ?_;refine zc h rfl (fun h=>?_) (fun h=>?_)
 cases h
 refine ai<|ae (aa ?_);obtain ⟨v3,w3,h⟩:=zn h;refine yx hn 1 ?_;refine ys 0 ⟨lk call43 (xj _ _ w3)⟩ ?_;refine ym 0 ?_;refine mL 1 ?_;refine yS (.box 40 [vz,vi 0,vz,vz,vi 0,vz]) 0 ⟨oA (aN _ _ yL)⟩ ?_;refine yk [27,5] [] ?_;refine yt (5,.box 40 (aM.b v3.1)) 1 ⟨aD _ _ _ _ _ _ _ _ tv rfl rfl rfl (zl rfl) rfl rfl⟩ ?_;refine aS [0,3,5,6,0] ?_;refine aa<|ap h (fun (():Unit)=>[(0,.box 62 (ab.b q ({ s with diary:=v1.2.2 }))),(3,.fr (.own 96) false 15 (flatten (map bl.ienc v1.1))),(5,.box 40 (aM.b v3.1)),ct G 0]) ?_ ?_;rintro ⟨⟩ h;refine ae (aa<|mK 2 K (es':=[_,_,(5,.box 40 [.fr .ro false 11 (flatten (map aK.ienc v3.1.LR)),.v (.int .i64 v3.1.Mk),.fl .ro 1 (map (int .i64) v3.1.Mv),.fl .ro 1 (map (int .u8) v3.1.Mm),.v (.int .i64 v3.1.Of),.fl .ro 1 (map (int .i64) v3.1.LJ)]),_]) rfl<|yy hn 5 [0,3,5,0] ?_);refine ae (aa ?_);obtain ⟨v9,w9,h⟩:=zn h;refine yx hn 4 ?_;refine yS (vi v9) 1 ⟨kV _ 53 0 8 45 _ rfl call45 rfl (.inl rfl) rfl rfl (fun u=>nh u v1.2.2 _ w9) rfl rfl rfl⟩ ?_;refine aS [0,3,5,8,0] ?_;refine aa<|aI hn 2 [0,3,5,8,55,0] ?_;refine zc h rfl (fun h=>?_) (fun h=>?_);refine aI hn 1 [0,2,0] ?_;exact qr
 cases h
 intro u5 h hl6 hr7;refine aI hn 4 [0,3,5,6,32,0] ?_;refine zc h rfl (fun h=>?_) (fun h=>?_)
 cases h
 refine ai<|pp [0,3,5,0] ?_;exact hl6 _ (zi h).symm
theorem iq (u:Nat→Value) (d:ao) (r:Int) (h:eo d=some r):mp prog 22 [.box 84 [.v (.int .i64 d.limit),.v (u 1),.v (.int .i64 d.used),.v (.int .i64 d.safe),.v (.int .i64 d.kept),.v (.int .i64 d.life),.v (.bool d.off),.v (.int .i64 d.trip),.v (.int .i64 d.tripKeep)]] [.box 84 [.v (.int .i64 d.limit),.v (u 1),.v (.int .i64 d.used),.v (.int .i64 d.safe),.v (.int .i64 d.kept),.v (.int .i64 d.life),.v (.bool d.off),.v (.int .i64 d.trip),.v (.int .i64 d.tripKeep)]] (.v (.int .i64 r)):=by unfold eo at h;refine yP 7 func22 fun G H g0 hn K=>?_;refine aI hn 1 [0,0] ?_;refine aI hn 5 [0,2,0] ?_;exact qr
end Go.Proofs.YtckpeedhchjjnaaGreatDoor
