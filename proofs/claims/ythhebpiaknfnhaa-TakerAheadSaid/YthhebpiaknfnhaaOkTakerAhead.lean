/-
  The model's runs are what is told in Lean.
-/
import Derived.Test.YthhebpiaknfnhaaProg
import Derived.KernelRfl
import Derived.Test.YthhebpiaknfnhaaOkc4
set_option linter.unusedVariables false
set_option linter.unusedSimpArgs false
set_option maxHeartbeats 1000000
namespace Go.Proofs.Ythhebpiaknfnhaa
open Go.Abs Go.Abs.Sh Try

theorem ok_wherrylaw22_TakerAhead (l : (List T_Rec)) (number : Int) (total : Int) (off : Int) (data : (List Int)) (r : Bool) (h : Sh.wherrylaw22_TakerAhead l number total off data = some r) : FnOK Try.prog 3 [.fr .shr true 15 (List.flatten (List.map T_Rec.ienc l)), .v (.int .i64 number), .v (.int .i64 total), .v (.int .i64 off), .fl .shr 1 (List.map (Value.int .u8) data)] (.v (.bool r)) := by
  unfold Sh.wherrylaw22_TakerAhead at h
  refine fn_ok func3 rfl (zl rfl) rfl rfl fun g0 hn hio => ?_
  refine zgg hn [_,_,_,_,_,(10,vb false)] [0,1,2,3,4] [0,1,2,3,4] [zq [] 5 10] [(_,_),(_,_),(_,_),(_,_),(_,_)] rfl ⟨z2 rfl,zz⟩ ?_
  refine ht_seq ?_
  refine ht_seq ?_
  refine ht_joinS h (fun (s61 : Bool) => [(0, .fr .shr true 15 (List.flatten (List.map T_Rec.ienc l))), (1, .v (.int .i64 number)), (2, .v (.int .i64 total)), (3, .v (.int .i64 off)), (4, .fl .shr 1 (List.map (Value.int .u8) data)), (31, .v (.bool s61))]) ?_ ?_
  ·rintro s61 h
   refine pt_then ?_
   refine ht_cond _ rfl (fun hb65 => ?_) (fun hb65 => ?_)
   ·have h := cond_t hb65 h
    refine zgg hn [_,_,_,_,_,_,(10,vb true)] [0,1,2,3,4,5] [6] [zq [] 6 10] [(_,_)] rfl ⟨z2 rfl,zz⟩ ?_
    refine ht_ret ?_
    refine pt_r_then ?_
    obtain rfl := Option.some.inj h
    exact pt_ret hio rfl (.tmp _ _ .nil) rfl rfl
   ·have h := cond_f hb65 h
    refine ht_skip ?_
    refine pt_then (ht_seq ?_)
    obtain ⟨v7, hv7, h⟩ := bind_some h
    obtain ⟨v8, hv8, h⟩ := bind_some h
    obtain ⟨v9, hv9, h⟩ := bind_some h
    obtain ⟨v10, hv10, h⟩ := bind_some h
    obtain ⟨v11, hv11, h⟩ := bind_some h
    obtain ⟨v12, hv12, h⟩ := bind_some h
    obtain ⟨v13, hv13, h⟩ := bind_some h
    obtain ⟨v14, hv14, h⟩ := bind_some h
    obtain ⟨v15, hv15, h⟩ := bind_some h
    obtain ⟨v16, hv16, h⟩ := bind_some h
    obtain ⟨v17, hv17, h⟩ := bind_some h
    refine zg hn (_::_::_::_::_::_::(32,vi number)::(33,.v (.int .u64 v7))::(34,.v (.int .u64 v8))::(35,vi v9)::(36,vi v10)::(37,vi total)::(38,.v (.int .u64 v11))::(39,.v (.int .u64 v12))::(40,vi v13)::(41,vi v14)::(42,vi off)::(43,.v (.int .u64 v15))::(44,.v (.int .u64 v16))::(45,vi v17)::(1,vi v10)::(2,vi v14)::(3,vi v17)::[]) [0,1,2,3,4,5] [0,4,20,21,22] (zq [1] 6 32::zq [6] 7 33::zq [7] 8 34::zq [8] 9 35::zq [9] 10 36::zq [2] 11 37::zq [11] 12 38::zq [12] 13 39::zq [13] 14 40::zq [14] 15 41::zq [3] 16 42::zq [16] 17 43::zq [17] 18 44::zq [18] 19 45::⟨[10],[1],[20],[(.slot 1)]⟩::⟨[15],[2],[21],[(.slot 2)]⟩::⟨[19],[3],[22],[(.slot 3)]⟩::[]) [(_,_),(_,_),(_,_),(_,_),(_,_)] rfl ⟨z1 rfl,zp rfl ((Option.some.inj hv7) ▸ op_conv _ _ _ underlying3 underlying25 rfl),zp rfl (oB rfl (rem_ok hv8)),zp rfl ((Option.some.inj hv9) ▸ op_conv _ _ _ underlying25 underlying3 rfl),zp rfl (oB rfl (ibind (f := Value.int .i64) (Option.some.inj hv10))),z1 rfl,zp rfl ((Option.some.inj hv11) ▸ op_conv _ _ _ underlying3 underlying25 rfl),zp rfl (oB rfl (rem_ok hv12)),zp rfl ((Option.some.inj hv13) ▸ op_conv _ _ _ underlying25 underlying3 rfl),zp rfl (oB rfl (ibind (f := Value.int .i64) (Option.some.inj hv14))),z1 rfl,zp rfl ((Option.some.inj hv15) ▸ op_conv _ _ _ underlying3 underlying25 rfl),zp rfl (oB rfl (rem_ok hv16)),zp rfl ((Option.some.inj hv17) ▸ op_conv _ _ _ underlying25 underlying3 rfl),zp rfl (LOp.drop [_] (op_assign _ _ _ _ rfl rfl)),zp rfl (LOp.drop [_] (op_assign _ _ _ _ rfl rfl)),zp rfl (LOp.drop [_] (op_assign _ _ _ _ rfl rfl)),zz⟩ ?_
    refine pt_then (ht_seq ?_)
    obtain ⟨v18, hv18, h⟩ := bind_some h
    refine zg hn [_,_,_,_,_,(47,.fr .shr true 15 (List.flatten (List.map T_Rec.ienc l))),(48,.tup [.agg [.fr (.own 67) false 11 (List.flatten (List.map T_Item.ienc v18.1.Items)),vi v18.1.Packs,.fl (.own 3) 1 (List.map (Value.int .i64) v18.1.Sent),.fl (.own 5) 1 (List.map (Value.int .u8) v18.1.Part),vi v18.1.Of,.fl (.own 3) 1 (List.map (Value.int .i64) v18.1.Done)],vi v18.2]),(46,.tup [.agg [.fr (.own 67) false 11 (List.flatten (List.map T_Item.ienc v18.1.Items)),vi v18.1.Packs,.fl (.own 3) 1 (List.map (Value.int .i64) v18.1.Sent),.fl (.own 5) 1 (List.map (Value.int .u8) v18.1.Part),vi v18.1.Of,.fl (.own 3) 1 (List.map (Value.int .i64) v18.1.Done)],vi v18.2]),(49,.agg [.fr (.own 67) false 11 (List.flatten (List.map T_Item.ienc v18.1.Items)),vi v18.1.Packs,.fl (.own 3) 1 (List.map (Value.int .i64) v18.1.Sent),.fl (.own 5) 1 (List.map (Value.int .u8) v18.1.Part),vi v18.1.Of,.fl (.own 3) 1 (List.map (Value.int .i64) v18.1.Done)]),(46,.tup [.any,vi v18.2]),(50,vi v18.2),(11,.box 29 [.v (.slice none 0 0),vi 0,.v (.slice none 0 0),.v (.slice none 0 0),vi 0,.v (.slice none 0 0)]),(11,.box 29 [.fr (.own 67) false 11 (List.flatten (List.map T_Item.ienc v18.1.Items)),vi v18.1.Packs,.fl (.own 3) 1 (List.map (Value.int .i64) v18.1.Sent),.fl (.own 5) 1 (List.map (Value.int .u8) v18.1.Part),vi v18.1.Of,.fl (.own 3) 1 (List.map (Value.int .i64) v18.1.Done)]),(12,vi v18.2)] [0,1,2,3,4] [1,2,3,4,12] [zq [0] 5 47,zq [5] 6 48,⟨[],[6],[7],[(.slot 46)]⟩,⟨[],[7],[9,8],[(.slot 49)]⟩,zq [9] 10 50,zq [] 11 11,⟨[],[8,11],[12],[.cell 11 0,.cell 11 1,.cell 11 2,.cell 11 3,.cell 11 4,.cell 11 5]⟩,zq [10] 13 12] [(_,_),(_,_),(_,_),(_,_),(_,_)] rfl ⟨z1 rfl,zp rfl (op_call _ _ 5 _ _ rfl call5 rfl (ok_wherryref18_Fold l _ hv18) rfl rfl),zp rfl (op_move_take _ _ _ _ rfl),zp rfl (op_extract_take _ _ _ _ _ rfl (zl rfl) rfl rfl (by decide) rfl),zp rfl (oE rfl),zp rfl (op_alloc _ _ zr29),zp rfl (op_store_take _ _ _ _ _ _ _ _ sz29 rfl rfl rfl (zl rfl) rfl rfl),z2 rfl,zz⟩ ?_
    refine pt_then (ht_seq ?_)
    refine zgg hn [_,_,_,_,_,(13,vi 0)] [0,1,2,3,4] [0,1,2,3,4,5] [zq [] 5 13] [(_,_),(_,_),(_,_),(_,_),(_,_),(_,_)] rfl ⟨z2 rfl,zz⟩ ?_
    refine ht_loopS h (fun (s71 : Int) => [(4, .fl .shr 1 (List.map (Value.int .u8) data)), (1, .v (.int .i64 v10)), (2, .v (.int .i64 v14)), (3, .v (.int .i64 v17)), (11, .box 29 [.fr (.own 67) false 11 (List.flatten (List.map T_Item.ienc v18.1.Items)), .v (.int .i64 v18.1.Packs), .fl (.own 3) 1 (List.map (Value.int .i64) v18.1.Sent), .fl (.own 5) 1 (List.map (Value.int .u8) v18.1.Part), .v (.int .i64 v18.1.Of), .fl (.own 3) 1 (List.map (Value.int .i64) v18.1.Done)]), (13, .v (.int .i64 s71))]) (fun (() : Unit) => [(4, .fl .shr 1 (List.map (Value.int .u8) data)), (1, .v (.int .i64 v10)), (2, .v (.int .i64 v14)), (3, .v (.int .i64 v17)), (11, .box 29 [.fr (.own 67) false 11 (List.flatten (List.map T_Item.ienc v18.1.Items)), .v (.int .i64 v18.1.Packs), .fl (.own 3) 1 (List.map (Value.int .i64) v18.1.Sent), .fl (.own 5) 1 (List.map (Value.int .u8) v18.1.Part), .v (.int .i64 v18.1.Of), .fl (.own 3) 1 (List.map (Value.int .i64) v18.1.Done)])]) ?_ ?_
    ·rintro ⟨⟩ h
     refine pt_then (ht_seq ?_)
     obtain ⟨v39, hv39, h⟩ := bind_some h
     refine zg hn [_,_,_,_,_,(66,.agg [.same (.cell 11 0),vi v18.1.Packs,.same (.cell 11 2),.same (.cell 11 3),vi v18.1.Of,.same (.cell 11 5)]),(67,vi v10),(68,vi v39),(14,vi v39)] [0,1,2,3,4] [0,1,2,3,4,8] [zq [4] 5 66,zq [1] 6 67,zq [5,4,6] 7 68,zq [7] 8 14] [(_,_),(_,_),(_,_),(_,_),(_,_),(_,_)] rfl ⟨zp rfl (op_loadA _ _ _ _ _ _ _ underlying29 rfl sz29 rfl rfl (zl rfl) rfl rfl),z1 rfl,zp rfl (op_call _ _ 7 _ _ rfl call7 rfl (ok_taker_Far v18.1 v10 _ hv39) rfl rfl),z2 rfl,zz⟩ ?_
     refine pt_then ?_
     refine zgg hn [_,_,_,_,_,_,(69,vi v10),(70,vi v14),(71,.agg [vb true,vi v10,vi v14]),(15,.box 35 [vb false,vi 0,vi 0]),(15,.box 35 [vb true,vi v10,vi v14])] [0,1,2,3,4,5] [0,1,2,3,4,5,10] [zq [1] 6 69,zq [2] 7 70,zq [6,7] 8 71,zq [] 9 15,⟨[8],[9],[10],[.cell 15 0,.cell 15 1,.cell 15 2]⟩] [(_,_),(_,_),(_,_),(_,_),(_,_),(_,_),(_,_)] rfl ⟨z1 rfl,z1 rfl,zp rfl (op_build _ _ _ _ [1, 1, 1] _ _ underlying35 zr35 (fs35 _ underlying35) (.copy _ (.copy _ (.copy _ Src.nil))) rfl rfl rfl),zp rfl (op_alloc _ _ zr35),zp rfl (oS sz35 rfl),zz⟩ ?_
     refine ht_seq ?_
     obtain ⟨v82, hv82, h⟩ := bind_some h
     refine zg hn (_::_::_::_::_::_::_::(73,.agg [.fr .ro false 11 (List.flatten (List.map T_Item.ienc v18.1.Items)),vi v18.1.Packs,.fl .ro 1 (List.map (Value.int .i64) v18.1.Sent),.fl .ro 1 (List.map (Value.int .u8) v18.1.Part),vi v18.1.Of,.fl .ro 1 (List.map (Value.int .i64) v18.1.Done)])::(74,.agg [vb true,vi v10,vi v14])::(75,vi v10)::(76,vi v17)::(77,.fl .shr 1 (List.map (Value.int .u8) data))::(78,.agg [vi 3,vi v10,vi v17,vi 0,.fl .shr 1 (List.map (Value.int .u8) data)])::(79,.tup [.agg [vb v82.1.Open,vi v82.1.Number,vi v82.1.Total],.fr .shr true 15 (List.flatten (List.map T_Rec.ienc v82.2.1)),.fr .shr true 5 (List.flatten (List.map T_Frame.ienc v82.2.2.1)),vi v82.2.2.2])::(72,.tup [.agg [vb v82.1.Open,vi v82.1.Number,vi v82.1.Total],.fr .shr true 15 (List.flatten (List.map T_Rec.ienc v82.2.1)),.fr .shr true 5 (List.flatten (List.map T_Frame.ienc v82.2.2.1)),vi v82.2.2.2])::(80,.agg [vb v82.1.Open,vi v82.1.Number,vi v82.1.Total])::(81,.fr .shr true 15 (List.flatten (List.map T_Rec.ienc v82.2.1)))::(82,.fr .shr true 5 (List.flatten (List.map T_Frame.ienc v82.2.2.1)))::(83,vi v82.2.2.2)::(16,.box 35 [vb false,vi 0,vi 0])::(16,.box 35 [vb v82.1.Open,vi v82.1.Number,vi v82.1.Total])::(17,.fr .shr true 15 (List.flatten (List.map T_Rec.ienc v82.2.1)))::(18,.fr .shr true 5 (List.flatten (List.map T_Frame.ienc v82.2.2.1)))::(19,vi v82.2.2.2)::[]) [0,1,2,3,4,5,6] [2,3,5,6,20,21,22,23] (⟨[],[4],[7],[(.slot 73)]⟩::zq [6] 8 74::zq [1] 9 75::zq [3] 10 76::zq [0] 11 77::zq [9,10,11] 12 78::zq [7,8,12] 13 79::⟨[],[13],[14],[(.slot 72)]⟩::zq [14] 15 80::zq [14] 16 81::zq [14] 17 82::zq [14] 18 83::zq [] 19 16::⟨[15],[19],[20],[.cell 16 0,.cell 16 1,.cell 16 2]⟩::zq [16] 21 17::zq [17] 22 18::zq [18] 23 19::[]) [(_,_),(_,_),(_,_),(_,_),(_,_),(_,_),(_,_),(_,_)] rfl ⟨zp rfl (LOp.frzG 0 (op_loadA_take _ _ _ _ underlying29 rfl sz29 rfl rfl) (zl rfl) rfl),zp rfl (op_loadA _ _ _ _ _ _ _ underlying35 rfl sz35 rfl rfl (zl rfl) rfl rfl),z1 rfl,z1 rfl,z1 rfl,zp rfl (op_build _ _ _ _ [1, 1, 1, 1, 1] _ _ underlying41 zr41 (fs41 _ underlying41) (.copy _ (.copy _ (.copy _ (.copy _ Src.nil)))) rfl rfl rfl),zp rfl (op_callS _ _ 8 _ _ rfl call8 rfl rfl (ok_taker_Hear_sh v18.1 (T_Take.mk true v10 v14) (T_Frame.mk 3 v10 v17 0 data) _ hv82) rfl),zp rfl (op_move_take _ _ _ _ rfl),zp rfl (op_extract_no _ _ _ _ _ _ rfl rfl (zl rfl) rfl rfl),zp rfl (oE rfl),zp rfl (oE rfl),zp rfl (oE rfl),zp rfl (op_alloc _ _ zr35),zp rfl (oS sz35 rfl),z2 rfl,z2 rfl,z2 rfl,zz⟩ ?_
     refine pt_then (ht_seq ?_)
     refine ht_seq ?_
     refine ht_joinS h (fun (s83 : Bool) => [(2, .v (.int .i64 v14)), (14, .v (.int .i64 v39)), (15, .box 35 [.v (.bool true), .v (.int .i64 v10), .v (.int .i64 v14)]), (16, .box 35 [.v (.bool v82.1.Open), .v (.int .i64 v82.1.Number), .v (.int .i64 v82.1.Total)]), (17, .fr .shr true 15 (List.flatten (List.map T_Rec.ienc v82.2.1))), (18, .fr .shr true 5 (List.flatten (List.map T_Frame.ienc v82.2.2.1))), (19, .v (.int .i64 v82.2.2.2)), (91, .v (.bool s83))]) ?_ ?_
     ·rintro s83 h
      refine pt_then ?_
      refine ht_cond _ rfl (fun hb87 => ?_) (fun hb87 => ?_)
      ·have h := cond_t hb87 h
       refine ht_seq ?_
       obtain ⟨v88, hv88, h⟩ := bind_some h
       refine zg hn [_,_,_,_,_,_,_,_,(92,vb v88),(10,vb v88)] [0,1,2,3,4,5,6,7] [9] [zq [] 8 92,zq [8] 9 10] [(_,_)] rfl ⟨zp rfl (op_call _ _ 6 _ _ rfl call6 rfl (ok_wherrylaw22_wakes  _ hv88) rfl rfl),z2 rfl,zz⟩ ?_
       refine pt_then (ht_ret ?_)
       refine pt_r_then ?_
       obtain rfl := Option.some.inj h
       exact pt_ret hio rfl (.tmp _ _ .nil) rfl rfl
      ·have h := cond_f hb87 h
       refine ht_skip ?_
       refine pt_then (ht_seq ?_)
       refine ht_seq ?_
       refine ht_joinS h (fun (s90 : Bool) => [(2, .v (.int .i64 v14)), (14, .v (.int .i64 v39)), (18, .fr .shr true 5 (List.flatten (List.map T_Frame.ienc v82.2.2.1))), (105, .v (.bool s90))]) ?_ ?_
       ·rintro s90 h
        refine pt_then ?_
        refine ht_cond _ rfl (fun hb94 => ?_) (fun hb94 => ?_)
        ·have h := cond_t hb94 h
         refine zgg hn [_,_,_,_,(10,vb false)] [0,1,2,3] [4] [zq [] 4 10] [(_,_)] rfl ⟨z2 rfl,zz⟩ ?_
         refine ht_ret ?_
         refine pt_r_then ?_
         obtain rfl := Option.some.inj h
         exact pt_ret hio rfl (.tmp _ _ .nil) rfl rfl
        ·have h := cond_f hb94 h
         refine ht_skip ?_
         refine pt_then (ht_seq ?_)
         refine zgg hn [_,_,_,_,(106,vi v39),(107,vi v14),(108,vb (v39 == v14))] [0,1,2,3] [1,2,6] [zq [1] 4 106,zq [0] 5 107,zq [4,5] 6 108] [(_,_),(_,_),(_,_)] rfl ⟨z1 rfl,z1 rfl,z4 rfl rfl,zz⟩ ?_
         refine ht_cond _ rfl (fun hb95 => ?_) (fun hb95 => ?_)
         ·have h := cond_t hb95 h
          refine ht_seq ?_
          refine ht_joinS h (fun (s97 : Bool) => [(10, .v (.bool s97))]) ?_ ?_
          ·rintro s97 h
           refine pt_then (ht_ret ?_)
           refine pt_r_then ?_
           obtain rfl := Option.some.inj h
           exact pt_ret hio rfl (.tmp _ _ .nil) rfl rfl
          ·intro u98 h hl99 hr100
           refine cond_some h (fun hg18_3 h => ?_) (fun hg18_3 h => ?_)
           ·obtain ⟨v96, hv96, h⟩ := bind_some h
            refine zg hn [_,_,_,(109,.fr .shr true 5 (List.flatten (List.map T_Frame.ienc v82.2.2.1))),(110,vi (v82.2.2.1.length : Int)),(111,vb ((v82.2.2.1.length : Int) == 0)),(112,vb true),(113,vb v96),(114,vb v96),(10,vb v96)] [0,1,2] [9] [zq [1] 3 109,zq [3] 4 110,zq [4] 5 111,zq [5] 6 112,zq [6] 7 113,zq [6,7] 8 114,zq [8] 9 10] [(_,_)] rfl ⟨z1 rfl,zp rfl (op_len_fr _ _ _ underlying36 rfl (by decide) (gflat_len T_Frame.ilen _)),z4 rfl rfl,z8 hg18_3 rfl,zr' rfl (op_call _ _ 6 _ _ rfl call6 rfl (ok_wherrylaw22_wakes  _ hv96) rfl rfl),z3 true rfl,z2 rfl,zz⟩ ?_
            exact hl99 _ (Option.some.inj h).symm
           ·refine zg hn [_,_,_,(109,.fr .shr true 5 (List.flatten (List.map T_Frame.ienc v82.2.2.1))),(110,vi (v82.2.2.1.length : Int)),(111,vb ((v82.2.2.1.length : Int) == 0)),(112,vb false),(113,.v undef),(114,vb false),(10,vb false)] [0,1,2] [9] [zq [1] 3 109,zq [3] 4 110,zq [4] 5 111,zq [5] 6 112,zq [6] 7 113,zq [6] 8 114,zq [8] 9 10] [(_,_)] rfl ⟨z1 rfl,zp rfl (op_len_fr _ _ _ underlying36 rfl (by decide) (gflat_len T_Frame.ilen _)),z4 rfl rfl,z8 hg18_3 rfl,zt rfl,z3 false rfl,z2 rfl,zz⟩ ?_
            exact hl99 _ (Option.some.inj h).symm
         ·have h := cond_f hb95 h
          refine ht_skip ?_
          refine pt_then (ht_seq ?_)
          refine ht_joinS h (fun (s110 : Bool) => [(10, .v (.bool s110))]) ?_ ?_
          ·rintro s110 h
           refine pt_then (ht_ret ?_)
           obtain rfl := Option.some.inj h
           exact pt_ret hio rfl (.tmp _ _ .nil) rfl rfl
          ·intro u111 h hl112 hr113
           refine cond_some h (fun hg19_3 h => ?_) (fun hg19_3 h => ?_)
           ·obtain ⟨v101, hv101, h⟩ := bind_some h
            obtain ⟨v102, hv102, h⟩ := bind_some h
            refine cond_some h (fun hg19_10 h => ?_) (fun hg19_10 h => ?_)
            ·obtain ⟨v103, hv103, h⟩ := bind_some h
             obtain ⟨v104, hv104, h⟩ := bind_some h
             obtain ⟨v105, hv105, h⟩ := bind_some h
             obtain ⟨v106, hv106, h⟩ := bind_some h
             obtain ⟨v107, hv107, h⟩ := bind_some h
             obtain ⟨v108, hv108, h⟩ := bind_some h
             refine cond_some h (fun hg19_22 h => ?_) (fun hg19_22 h => ?_)
             ·obtain ⟨v109, hv109, h⟩ := bind_some h
              refine zg hn (_::_::_::(115,.fr .shr true 5 (List.flatten (List.map T_Frame.ienc v82.2.2.1)))::(116,vi (v82.2.2.1.length : Int))::(117,vb ((v82.2.2.1.length : Int) == 1))::(118,vb true)::(119,.fr .shr true 5 (List.flatten (List.map T_Frame.ienc v82.2.2.1)))::(120,.eref (.slot 119) (v101 * 5))::(121,.eref (.slot 119) (v101 * 5 + 0))::(122,vi v102.Kind)::(123,vb (v102.Kind == 4))::(124,vb (v102.Kind == 4))::(125,vb true)::(126,.fr .shr true 5 (List.flatten (List.map T_Frame.ienc v82.2.2.1)))::(127,.eref (.slot 126) (v103 * 5))::(128,.eref (.slot 126) (v103 * 5 + 3))::(129,vi v104.Seq)::(130,vi v39)::(131,vi v105)::(132,vi v106)::(133,vi v107)::(134,vi v108)::(135,vb (v104.Seq == v108))::(136,vb (v104.Seq == v108))::(137,vb true)::(138,vb v109)::(139,vb v109)::(10,vb v109)::[]) [0,1,2] [28] (zq [1] 3 115::zq [3] 4 116::zq [4] 5 117::zq [5] 6 118::zq [6,1] 7 119::zq [6,7] 8 120::zq [6,8,7] 9 121::zq [6,9,7] 10 122::zq [6,10] 11 123::zq [6,11] 12 124::zq [12] 13 125::zq [13,1] 14 126::zq [13,14] 15 127::zq [13,15,14] 16 128::zq [13,16,14] 17 129::zq [13,0] 18 130::zq [13,18] 19 131::zq [13,19] 20 132::zq [13,20] 21 133::zq [13,21] 22 134::zq [13,17,22] 23 135::zq [13,23] 24 136::zq [24] 25 137::zq [25] 26 138::zq [25,26] 27 139::zq [27] 28 10::[]) [(_,_)] rfl ⟨z1 rfl,zp rfl (op_len_fr _ _ _ underlying36 rfl (by decide) (gflat_len T_Frame.ilen _)),z4 rfl rfl,z8 hg19_3 rfl,zr' rfl (oM rfl),zr' rfl (op_ix_fr _ _ _ _ _ _ _ _ underlying36 sz41 (by decide) rfl rfl rfl (ix_ok hv101).1 (gflat_lt T_Frame.ilen (ix_ok hv101).2) rfl),zr' rfl (op_fieldAddr_e _ _ _ _ _ _ _ underlying41 rfl sz3 rfl rfl rfl),zr' rfl (op_load_fr _ _ _ _ _ _ _ underlying3 rfl rfl rfl (gflat_cell T_Frame.ilen hv102 rfl) (.v _)),zr' rfl (oB rfl rfl),z3 true rfl,z8 hg19_10 rfl,zr' rfl (oM rfl),zr' rfl (op_ix_fr _ _ _ _ _ _ _ _ underlying36 sz41 (by decide) rfl rfl rfl (ix_ok hv103).1 (gflat_lt T_Frame.ilen (ix_ok hv103).2) rfl),zr' rfl (op_fieldAddr_e _ _ _ _ _ _ _ underlying41 rfl sz3 rfl rfl rfl),zr' rfl (op_load_fr _ _ _ _ _ _ _ underlying3 rfl rfl rfl (gflat_cell T_Frame.ilen hv104 rfl) (.v _)),zr' rfl (oM rfl),zr' rfl (oB rfl (ibind (f := Value.int .i64) (Option.some.inj hv105))),zr' rfl (oB rfl (ibind (f := Value.int .i64) (Option.some.inj hv106))),zr' rfl (oB rfl (quo_ok hv107)),zr' rfl (oB rfl (rem_ok hv108)),zr' rfl (oB rfl rfl),z3 true rfl,z8 hg19_22 rfl,zr' rfl (op_call _ _ 6 _ _ rfl call6 rfl (ok_wherrylaw22_wakes  _ hv109) rfl rfl),z3 true rfl,z2 rfl,zz⟩ ?_
              exact hl112 _ (Option.some.inj h).symm
             ·refine zg hn (_::_::_::(115,.fr .shr true 5 (List.flatten (List.map T_Frame.ienc v82.2.2.1)))::(116,vi (v82.2.2.1.length : Int))::(117,vb ((v82.2.2.1.length : Int) == 1))::(118,vb true)::(119,.fr .shr true 5 (List.flatten (List.map T_Frame.ienc v82.2.2.1)))::(120,.eref (.slot 119) (v101 * 5))::(121,.eref (.slot 119) (v101 * 5 + 0))::(122,vi v102.Kind)::(123,vb (v102.Kind == 4))::(124,vb (v102.Kind == 4))::(125,vb true)::(126,.fr .shr true 5 (List.flatten (List.map T_Frame.ienc v82.2.2.1)))::(127,.eref (.slot 126) (v103 * 5))::(128,.eref (.slot 126) (v103 * 5 + 3))::(129,vi v104.Seq)::(130,vi v39)::(131,vi v105)::(132,vi v106)::(133,vi v107)::(134,vi v108)::(135,vb (v104.Seq == v108))::(136,vb (v104.Seq == v108))::(137,vb false)::(138,.v undef)::(139,vb false)::(10,vb false)::[]) [0,1,2] [28] (zq [1] 3 115::zq [3] 4 116::zq [4] 5 117::zq [5] 6 118::zq [6,1] 7 119::zq [6,7] 8 120::zq [6,8,7] 9 121::zq [6,9,7] 10 122::zq [6,10] 11 123::zq [6,11] 12 124::zq [12] 13 125::zq [13,1] 14 126::zq [13,14] 15 127::zq [13,15,14] 16 128::zq [13,16,14] 17 129::zq [13,0] 18 130::zq [13,18] 19 131::zq [13,19] 20 132::zq [13,20] 21 133::zq [13,21] 22 134::zq [13,17,22] 23 135::zq [13,23] 24 136::zq [24] 25 137::zq [25] 26 138::zq [25] 27 139::zq [27] 28 10::[]) [(_,_)] rfl ⟨z1 rfl,zp rfl (op_len_fr _ _ _ underlying36 rfl (by decide) (gflat_len T_Frame.ilen _)),z4 rfl rfl,z8 hg19_3 rfl,zr' rfl (oM rfl),zr' rfl (op_ix_fr _ _ _ _ _ _ _ _ underlying36 sz41 (by decide) rfl rfl rfl (ix_ok hv101).1 (gflat_lt T_Frame.ilen (ix_ok hv101).2) rfl),zr' rfl (op_fieldAddr_e _ _ _ _ _ _ _ underlying41 rfl sz3 rfl rfl rfl),zr' rfl (op_load_fr _ _ _ _ _ _ _ underlying3 rfl rfl rfl (gflat_cell T_Frame.ilen hv102 rfl) (.v _)),zr' rfl (oB rfl rfl),z3 true rfl,z8 hg19_10 rfl,zr' rfl (oM rfl),zr' rfl (op_ix_fr _ _ _ _ _ _ _ _ underlying36 sz41 (by decide) rfl rfl rfl (ix_ok hv103).1 (gflat_lt T_Frame.ilen (ix_ok hv103).2) rfl),zr' rfl (op_fieldAddr_e _ _ _ _ _ _ _ underlying41 rfl sz3 rfl rfl rfl),zr' rfl (op_load_fr _ _ _ _ _ _ _ underlying3 rfl rfl rfl (gflat_cell T_Frame.ilen hv104 rfl) (.v _)),zr' rfl (oM rfl),zr' rfl (oB rfl (ibind (f := Value.int .i64) (Option.some.inj hv105))),zr' rfl (oB rfl (ibind (f := Value.int .i64) (Option.some.inj hv106))),zr' rfl (oB rfl (quo_ok hv107)),zr' rfl (oB rfl (rem_ok hv108)),zr' rfl (oB rfl rfl),z3 true rfl,z8 hg19_22 rfl,zt rfl,z3 false rfl,z2 rfl,zz⟩ ?_
              exact hl112 _ (Option.some.inj h).symm
            ·refine zg hn (_::_::_::(115,.fr .shr true 5 (List.flatten (List.map T_Frame.ienc v82.2.2.1)))::(116,vi (v82.2.2.1.length : Int))::(117,vb ((v82.2.2.1.length : Int) == 1))::(118,vb true)::(119,.fr .shr true 5 (List.flatten (List.map T_Frame.ienc v82.2.2.1)))::(120,.eref (.slot 119) (v101 * 5))::(121,.eref (.slot 119) (v101 * 5 + 0))::(122,vi v102.Kind)::(123,vb (v102.Kind == 4))::(124,vb (v102.Kind == 4))::(125,vb false)::(126,.v undef)::(127,.v undef)::(128,.v undef)::(129,.v undef)::(130,.v undef)::(131,.v undef)::(132,.v undef)::(133,.v undef)::(134,.v undef)::(135,.v undef)::(136,vb false)::(137,vb false)::(138,.v undef)::(139,vb false)::(10,vb false)::[]) [0,1,2] [28] (zq [1] 3 115::zq [3] 4 116::zq [4] 5 117::zq [5] 6 118::zq [6,1] 7 119::zq [6,7] 8 120::zq [6,8,7] 9 121::zq [6,9,7] 10 122::zq [6,10] 11 123::zq [6,11] 12 124::zq [12] 13 125::zq [13] 14 126::zq [13] 15 127::zq [13] 16 128::zq [13] 17 129::zq [13] 18 130::zq [13] 19 131::zq [13] 20 132::zq [13] 21 133::zq [13] 22 134::zq [13] 23 135::zq [13] 24 136::zq [24] 25 137::zq [25] 26 138::zq [25] 27 139::zq [27] 28 10::[]) [(_,_)] rfl ⟨z1 rfl,zp rfl (op_len_fr _ _ _ underlying36 rfl (by decide) (gflat_len T_Frame.ilen _)),z4 rfl rfl,z8 hg19_3 rfl,zr' rfl (oM rfl),zr' rfl (op_ix_fr _ _ _ _ _ _ _ _ underlying36 sz41 (by decide) rfl rfl rfl (ix_ok hv101).1 (gflat_lt T_Frame.ilen (ix_ok hv101).2) rfl),zr' rfl (op_fieldAddr_e _ _ _ _ _ _ _ underlying41 rfl sz3 rfl rfl rfl),zr' rfl (op_load_fr _ _ _ _ _ _ _ underlying3 rfl rfl rfl (gflat_cell T_Frame.ilen hv102 rfl) (.v _)),zr' rfl (oB rfl rfl),z3 true rfl,z8 hg19_10 rfl,zt rfl,zt rfl,zt rfl,zt rfl,zt rfl,zt rfl,zt rfl,zt rfl,zt rfl,zt rfl,z3 false rfl,z1 rfl,zt rfl,z3 false rfl,z2 rfl,zz⟩ ?_
             exact hl112 _ (Option.some.inj h).symm
           ·refine zg hn (_::_::_::(115,.fr .shr true 5 (List.flatten (List.map T_Frame.ienc v82.2.2.1)))::(116,vi (v82.2.2.1.length : Int))::(117,vb ((v82.2.2.1.length : Int) == 1))::(118,vb false)::(119,.v undef)::(120,.v undef)::(121,.v undef)::(122,.v undef)::(123,.v undef)::(124,vb false)::(125,vb false)::(126,.v undef)::(127,.v undef)::(128,.v undef)::(129,.v undef)::(130,.v undef)::(131,.v undef)::(132,.v undef)::(133,.v undef)::(134,.v undef)::(135,.v undef)::(136,vb false)::(137,vb false)::(138,.v undef)::(139,vb false)::(10,vb false)::[]) [0,1,2] [28] (zq [1] 3 115::zq [3] 4 116::zq [4] 5 117::zq [5] 6 118::zq [6] 7 119::zq [6] 8 120::zq [6] 9 121::zq [6] 10 122::zq [6] 11 123::zq [6] 12 124::zq [12] 13 125::zq [13] 14 126::zq [13] 15 127::zq [13] 16 128::zq [13] 17 129::zq [13] 18 130::zq [13] 19 131::zq [13] 20 132::zq [13] 21 133::zq [13] 22 134::zq [13] 23 135::zq [13] 24 136::zq [24] 25 137::zq [25] 26 138::zq [25] 27 139::zq [27] 28 10::[]) [(_,_)] rfl ⟨z1 rfl,zp rfl (op_len_fr _ _ _ underlying36 rfl (by decide) (gflat_len T_Frame.ilen _)),z4 rfl rfl,z8 hg19_3 rfl,zt rfl,zt rfl,zt rfl,zt rfl,zt rfl,z3 false rfl,z1 rfl,zt rfl,zt rfl,zt rfl,zt rfl,zt rfl,zt rfl,zt rfl,zt rfl,zt rfl,zt rfl,z3 false rfl,z1 rfl,zt rfl,z3 false rfl,z2 rfl,zz⟩ ?_
            exact hl112 _ (Option.some.inj h).symm
       ·intro u91 h hl92 hr93
        refine cond_some h (fun hg15_2 h => ?_) (fun hg15_2 h => ?_)
        ·refine zg hn (_::_::_::_::_::_::_::_::(93,vi v82.2.2.2)::(94,vb (v82.2.2.2 != 0))::(95,vb true)::(96,.v undef)::(97,.v undef)::(98,.v undef)::(99,vb true)::(100,vb true)::(101,.v undef)::(102,.v undef)::(103,.v undef)::(104,.v undef)::(105,vb true)::[]) [0,1,2,3,4,5,6,7] [0,1,5,20] [zq [6] 8 93,zq [8] 9 94,zq [9] 10 95,zq [10] 11 96,zq [10] 12 97,zq [10] 13 98,zq [10] 14 99,zq [14] 15 100,zq [15] 16 101,zq [15] 17 102,zq [15] 18 103,zq [15] 19 104,zq [15] 20 105] [(_,_),(_,_),(_,_),(_,_)] rfl ⟨z1 rfl,z4 rfl rfl,z8 hg15_2 rfl,zf rfl,zf rfl,zf rfl,z3 true rfl,z1 rfl,zf rfl,zf rfl,zf rfl,zf rfl,z3 true rfl,zz⟩ ?_
         exact hl92 _ (Option.some.inj h).symm
        ·refine cond_some h (fun hg15_7 h => ?_) (fun hg15_7 h => ?_)
         ·refine zg hn (_::_::_::_::_::_::_::_::(93,vi v82.2.2.2)::(94,vb (v82.2.2.2 != 0))::(95,vb false)::(96,.fr .shr true 15 (List.flatten (List.map T_Rec.ienc v82.2.1)))::(97,vi (v82.2.1.length : Int))::(98,vb ((v82.2.1.length : Int) != 0))::(99,vb ((v82.2.1.length : Int) != 0))::(100,vb true)::(101,.v undef)::(102,.v undef)::(103,.v undef)::(104,.v undef)::(105,vb true)::[]) [0,1,2,3,4,5,6,7] [0,1,5,20] [zq [6] 8 93,zq [8] 9 94,zq [9] 10 95,zq [10,4] 11 96,zq [10,11] 12 97,zq [10,12] 13 98,zq [10,13] 14 99,zq [14] 15 100,zq [15] 16 101,zq [15] 17 102,zq [15] 18 103,zq [15] 19 104,zq [15] 20 105] [(_,_),(_,_),(_,_),(_,_)] rfl ⟨z1 rfl,z4 rfl rfl,z8 hg15_2 rfl,zr' rfl (oM rfl),zr' rfl (op_len_fr _ _ _ underlying22 rfl (by decide) (gflat_len T_Rec.ilen _)),zr' rfl (oB rfl rfl),z3 false rfl,z8 hg15_7 rfl,zf rfl,zf rfl,zf rfl,zf rfl,z3 true rfl,zz⟩ ?_
          exact hl92 _ (Option.some.inj h).symm
         ·obtain ⟨v89, hv89, h⟩ := bind_some h
          refine zg hn (_::_::_::_::_::_::_::_::(93,vi v82.2.2.2)::(94,vb (v82.2.2.2 != 0))::(95,vb false)::(96,.fr .shr true 15 (List.flatten (List.map T_Rec.ienc v82.2.1)))::(97,vi (v82.2.1.length : Int))::(98,vb ((v82.2.1.length : Int) != 0))::(99,vb ((v82.2.1.length : Int) != 0))::(100,vb false)::(101,.agg [vb v82.1.Open,vi v82.1.Number,vi v82.1.Total])::(102,.agg [vb true,vi v10,vi v14])::(103,vb v89)::(104,vb (!v89))::(105,vb (!v89))::[]) [0,1,2,3,4,5,6,7] [0,1,5,20] [zq [6] 8 93,zq [8] 9 94,zq [9] 10 95,zq [10,4] 11 96,zq [10,11] 12 97,zq [10,12] 13 98,zq [10,13] 14 99,zq [14] 15 100,zq [15,3] 16 101,zq [15,2] 17 102,zq [15,16,17] 18 103,zq [15,18] 19 104,zq [15,19] 20 105] [(_,_),(_,_),(_,_),(_,_)] rfl ⟨z1 rfl,z4 rfl rfl,z8 hg15_2 rfl,zr' rfl (oM rfl),zr' rfl (op_len_fr _ _ _ underlying22 rfl (by decide) (gflat_len T_Rec.ilen _)),zr' rfl (oB rfl rfl),z3 false rfl,z8 hg15_7 rfl,zr' rfl (op_loadA _ _ _ _ _ _ _ underlying35 rfl sz35 rfl rfl (zl rfl) rfl rfl),zr' rfl (op_loadA _ _ _ _ _ _ _ underlying35 rfl sz35 rfl rfl (zl rfl) rfl rfl),zr' rfl (op_call _ _ 9 _ _ rfl call9 rfl (ok_wherrykeep_Take v82.1 (T_Take.mk true v10 v14) _ hv89) rfl rfl),zr' rfl (op_un _ _ _ _ rfl rfl),z3 false rfl,zz⟩ ?_
          exact hl92 _ (Option.some.inj h).symm
     ·intro u84 h hl85 hr86
      refine cond_some h (fun hg13_3 h => ?_) (fun hg13_3 h => ?_)
      ·refine zg hn (_::_::_::_::_::_::_::_::(84,vi v17)::(85,vi v39)::(86,vb (v17 == v39))::(87,vb true)::(88,vi v39)::(89,vi v14)::(90,vb (v39 != v14))::(91,vb (v39 != v14))::[]) [0,1,2,3,4,5,6,7] [0,2,3,4,5,6,7,15] [zq [1] 8 84,zq [2] 9 85,zq [8,9] 10 86,zq [10] 11 87,zq [11,2] 12 88,zq [11,0] 13 89,zq [11,12,13] 14 90,zq [11,14] 15 91] [(_,_),(_,_),(_,_),(_,_),(_,_),(_,_),(_,_),(_,_)] rfl ⟨z1 rfl,z1 rfl,z4 rfl rfl,z8 hg13_3 rfl,zr' rfl (oM rfl),zr' rfl (oM rfl),zr' rfl (oB rfl rfl),z3 true rfl,zz⟩ ?_
       exact hl85 _ (Option.some.inj h).symm
      ·refine zg hn (_::_::_::_::_::_::_::_::(84,vi v17)::(85,vi v39)::(86,vb (v17 == v39))::(87,vb false)::(88,.v undef)::(89,.v undef)::(90,.v undef)::(91,vb false)::[]) [0,1,2,3,4,5,6,7] [0,2,3,4,5,6,7,15] [zq [1] 8 84,zq [2] 9 85,zq [8,9] 10 86,zq [10] 11 87,zq [11] 12 88,zq [11] 13 89,zq [11] 14 90,zq [11] 15 91] [(_,_),(_,_),(_,_),(_,_),(_,_),(_,_),(_,_),(_,_)] rfl ⟨z1 rfl,z1 rfl,z4 rfl rfl,z8 hg13_3 rfl,zt rfl,zt rfl,zt rfl,z3 false rfl,zz⟩ ?_
       exact hl85 _ (Option.some.inj h).symm
    ·rintro u74 hl75 hr76 s71 rr79 h ho77
     refine ht_seq ?_
     refine zgg hn [_,_,_,_,_,_,(51,vi s71),(52,.ptr 11 5),(53,.same (.cell 11 5)),(54,vi (v18.1.Done.length : Int)),(55,vb (decide (s71 < (v18.1.Done.length : Int))))] [0,1,2,3,4,5] [0,1,2,3,4,5,10] [zq [5] 6 51,zq [4] 7 52,zq [7,4] 8 53,zq [8,4] 9 54,zq [6,9] 10 55] [(_,_),(_,_),(_,_),(_,_),(_,_),(_,_),(_,_)] rfl ⟨z1 rfl,zp rfl (oF underlying29 rfl sz27),zp rfl (oL underlying27 rfl),zp rfl (op_len_fl _ _ _ underlying27 rfl (by decide) (map_len _)),z4 rfl rfl,zz⟩ ?_
     refine ht_cond _ rfl (fun hb80 => ?_) (fun hb80 => ?_)
     ·have h := cond_t hb80 h
      refine ht_skip ?_
      refine pt_then (ht_seq ?_)
      refine ht_block ?_
      refine ht_seq ?_
      obtain ⟨v20, hv20, h⟩ := bind_some h
      obtain ⟨v21, hv21, h⟩ := bind_some h
      refine zg hn [_,_,_,_,_,_,_,(58,.ptr 11 5),(59,.same (.cell 11 5)),(60,vi s71),(61,.eref (.cell 11 5) (v20 * 1)),(62,vi v21),(63,vi v10),(64,vb (v21 == v10))] [0,1,2,3,4,5,6] [0,1,2,3,4,5,13] [zq [4] 7 58,zq [7,4] 8 59,zq [5] 9 60,zq [8,4,9] 10 61,zq [10,4] 11 62,zq [1] 12 63,zq [11,12] 13 64] [(_,_),(_,_),(_,_),(_,_),(_,_),(_,_),(_,_)] rfl ⟨zp rfl (oF underlying29 rfl sz27),zp rfl (oL underlying27 rfl),z1 rfl,zp rfl (op_ix _ _ _ _ _ _ _ _ underlying27 sz3 (by decide) rfl rfl rfl (ix_ok hv20).1 (map_lt (ix_ok hv20).2) rfl),zp rfl (op_load_e _ _ _ _ _ _ underlying3 rfl rfl rfl (map_get hv21)),z1 rfl,z4 rfl rfl,zz⟩ ?_
      refine pt_then ?_
      refine ht_cond _ rfl (fun hb81 => ?_) (fun hb81 => ?_)
      ·have h := cond_t hb81 h
       refine ht_seq ?_
       obtain ⟨v23, hv23, h⟩ := bind_some h
       refine zg hn [_,_,_,_,_,_,_,(65,vb v23),(10,vb v23)] [0,1,2,3,4,5,6] [8] [zq [] 7 65,zq [7] 8 10] [(_,_)] rfl ⟨zp rfl (op_call _ _ 6 _ _ rfl call6 rfl (ok_wherrylaw22_wakes  _ hv23) rfl rfl),z2 rfl,zz⟩ ?_
       refine pt_then (ht_ret ?_)
       refine pt_r_in ?_
       refine pt_r_then ?_
       refine pt_r_then ?_
       refine pt_r_in ?_
       refine pt_r_then ?_
       have h := hr76 _ (ho77 _ (Option.some.inj h).symm).symm
       obtain rfl := Option.some.inj h
       exact pt_ret hio rfl (.tmp _ _ .nil) rfl rfl
      ·have h := cond_f hb81 h
       refine ht_skip ?_
       refine pt_inb ?_
       refine pt_then ?_
       obtain ⟨v24, hv24, h⟩ := bind_some h
       refine zg hn [_,_,_,_,_,_,_,(56,vi s71),(57,vi v24),(13,vi v24)] [0,1,2,3,4,5,6] [0,1,2,3,4,9] [zq [5] 7 56,zq [7] 8 57,⟨[8],[5],[9],[(.slot 13)]⟩] [(_,_),(_,_),(_,_),(_,_),(_,_),(_,_)] rfl ⟨z1 rfl,zp rfl (oB rfl (ibind (f := Value.int .i64) (Option.some.inj hv24))),zp rfl (LOp.drop [_] (op_assign _ _ _ _ rfl rfl)),zz⟩ ?_
       exact pt_next _ (Option.some.inj h).symm rfl
     ·have h := cond_f hb80 h
      refine ht_exit ?_
      refine pt_x_then ?_
      refine pt_x_then ?_
      refine pt_x_in ?_
      refine pt_pick [0, 1, 2, 3, 4] (by kernel_rfl) (es' := [(_,_),(_,_),(_,_),(_,_),(_,_)]) rfl ?_
      exact hl75 _ (ho77 _ (Option.some.inj h).symm).symm
  ·intro u62 h hl63 hr64
   obtain ⟨v1, hv1, h⟩ := bind_some h
   refine cond_some h (fun hg1_2 h => ?_) (fun hg1_2 h => ?_)
   ·refine zg hn (_::_::_::_::_::(20,.fr .shr true 15 (List.flatten (List.map T_Rec.ienc l)))::(21,vb v1)::(22,vb true)::(23,.v undef)::(24,.v undef)::(25,.v undef)::(26,vb true)::(27,vb true)::(28,.v undef)::(29,.v undef)::(30,.v undef)::(31,vb true)::[]) [0,1,2,3,4] [0,1,2,3,4,16] [zq [0] 5 20,zq [5] 6 21,zq [6] 7 22,zq [7] 8 23,zq [7] 9 24,zq [7] 10 25,zq [7] 11 26,zq [11] 12 27,zq [12] 13 28,zq [12] 14 29,zq [12] 15 30,zq [12] 16 31] [(_,_),(_,_),(_,_),(_,_),(_,_),(_,_)] rfl ⟨z1 rfl,zp rfl (op_call _ _ 4 _ _ rfl call4 rfl (ok_wherrylaw18_Heavy l _ hv1) rfl rfl),z8 hg1_2 rfl,zf rfl,zf rfl,zf rfl,z3 true rfl,z1 rfl,zf rfl,zf rfl,zf rfl,z3 true rfl,zz⟩ ?_
    exact hl63 _ (Option.some.inj h).symm
   ·refine cond_some h (fun hg1_7 h => ?_) (fun hg1_7 h => ?_)
    ·refine zg hn (_::_::_::_::_::(20,.fr .shr true 15 (List.flatten (List.map T_Rec.ienc l)))::(21,vb v1)::(22,vb false)::(23,.fl .shr 1 (List.map (Value.int .u8) data))::(24,vi (data.length : Int))::(25,vb (decide (48 < (data.length : Int))))::(26,vb (decide (48 < (data.length : Int))))::(27,vb true)::(28,.v undef)::(29,.v undef)::(30,.v undef)::(31,vb true)::[]) [0,1,2,3,4] [0,1,2,3,4,16] [zq [0] 5 20,zq [5] 6 21,zq [6] 7 22,zq [7,4] 8 23,zq [7,8] 9 24,zq [7,9] 10 25,zq [7,10] 11 26,zq [11] 12 27,zq [12] 13 28,zq [12] 14 29,zq [12] 15 30,zq [12] 16 31] [(_,_),(_,_),(_,_),(_,_),(_,_),(_,_)] rfl ⟨z1 rfl,zp rfl (op_call _ _ 4 _ _ rfl call4 rfl (ok_wherrylaw18_Heavy l _ hv1) rfl rfl),z8 hg1_2 rfl,zr' rfl (oM rfl),zr' rfl (op_len_fl _ _ _ underlying23 rfl (by decide) (map_len _)),zr' rfl (oB rfl rfl),z3 false rfl,z8 hg1_7 rfl,zf rfl,zf rfl,zf rfl,z3 true rfl,zz⟩ ?_
     exact hl63 _ (Option.some.inj h).symm
    ·refine zg hn (_::_::_::_::_::(20,.fr .shr true 15 (List.flatten (List.map T_Rec.ienc l)))::(21,vb v1)::(22,vb false)::(23,.fl .shr 1 (List.map (Value.int .u8) data))::(24,vi (data.length : Int))::(25,vb (decide (48 < (data.length : Int))))::(26,vb (decide (48 < (data.length : Int))))::(27,vb false)::(28,.fl .shr 1 (List.map (Value.int .u8) data))::(29,vi (data.length : Int))::(30,vb ((data.length : Int) == 0))::(31,vb ((data.length : Int) == 0))::[]) [0,1,2,3,4] [0,1,2,3,4,16] [zq [0] 5 20,zq [5] 6 21,zq [6] 7 22,zq [7,4] 8 23,zq [7,8] 9 24,zq [7,9] 10 25,zq [7,10] 11 26,zq [11] 12 27,zq [12,4] 13 28,zq [12,13] 14 29,zq [12,14] 15 30,zq [12,15] 16 31] [(_,_),(_,_),(_,_),(_,_),(_,_),(_,_)] rfl ⟨z1 rfl,zp rfl (op_call _ _ 4 _ _ rfl call4 rfl (ok_wherrylaw18_Heavy l _ hv1) rfl rfl),z8 hg1_2 rfl,zr' rfl (oM rfl),zr' rfl (op_len_fl _ _ _ underlying23 rfl (by decide) (map_len _)),zr' rfl (oB rfl rfl),z3 false rfl,z8 hg1_7 rfl,zr' rfl (oM rfl),zr' rfl (op_len_fl _ _ _ underlying23 rfl (by decide) (map_len _)),zr' rfl (oB rfl rfl),z3 false rfl,zz⟩ ?_
     exact hl63 _ (Option.some.inj h).symm

end Go.Proofs.Ythhebpiaknfnhaa
