/-
  The model's runs are what is told in Lean.
-/
import Derived.Test.YtccfiglffammoaaDoorProg
import Derived.KernelRfl
import Derived.Test.YtccfiglffammoaaDoorShelf
import Derived.Test.YtccfiglffammoaaDoorIdx
import Derived.Test.YtccfiglffammoaaDoorOkc1
set_option linter.unusedVariables false
set_option linter.unusedSimpArgs false
set_option maxHeartbeats 1000000
namespace Go.Proofs.YtccfiglffammoaaDoor
open Go.Abs Go.Abs.Sh Tryd
theorem ok_wherryref11_Domain (s : ByteArray) (r : Bool) (h : Sh.wherryref11_Domain s = some r) : FnOK Tryd.prog 27 [.v (.string s)] (.v (.bool r)) := by
  unfold Sh.wherryref11_Domain at h
  refine fn_ok func27 rfl (zl rfl) rfl rfl fun g0 hn hio => ?_
  refine zgg hn [_,(2,vb false)] [0] [0] [zq [] 1 2] [(_,_)] rfl ⟨z2 rfl,zz⟩ ?_
  refine ht_seq ?_
  refine ht_seq ?_
  obtain ⟨v1, hv1, h⟩ := bind_some h
  refine zg hn [_,(5,vs s),(6,vi (s.size : Int)),(7,vb v1),(8,vb (!v1))] [0] [0,4] [zq [0] 1 5,zq [1] 2 6,zq [2] 3 7,zq [3] 4 8] [(_,_),(_,_)] rfl ⟨z1 rfl,zp rfl (oN underlying9 rfl),zp rfl (op_call _ _ 48 _ _ rfl call48 rfl (ok_wherryref11_in (s.size : Int) 1 255 _ hv1) rfl rfl),zp rfl (op_un _ _ _ _ rfl rfl),zz⟩ ?_
  refine pt_then ?_
  refine ht_cond _ rfl (fun hb2 => ?_) (fun hb2 => ?_)
  ·have h := cond_t hb2 h
   refine zgg hn [_,_,(2,vb false)] [0,1] [2] [zq [] 2 2] [(_,_)] rfl ⟨z2 rfl,zz⟩ ?_
   refine ht_ret ?_
   refine pt_r_then ?_
   obtain rfl := Option.some.inj h
   exact pt_ret hio rfl (.tmp _ _ .nil) rfl rfl
  ·have h := cond_f hb2 h
   refine ht_skip ?_
   refine pt_then ?_
   refine zgg hn [_,_,(3,vi 0)] [0,1] [0,2] [zq [] 2 3] [(_,_),(_,_)] rfl ⟨z2 rfl,zz⟩ ?_
   refine ht_seq ?_
   refine zgg hn [_,_,(4,vi 0)] [0,1] [0,1,2] [zq [] 2 4] [(_,_),(_,_),(_,_)] rfl ⟨z2 rfl,zz⟩ ?_
   refine ht_loopS h (fun ((s88, s89) : Int × Int) => [(0, .v (.string s)), (3, .v (.int .i64 s88)), (4, .v (.int .i64 s89))]) (fun (() : Unit) => []) ?_ ?_
   ·rintro ⟨⟩ h
    refine pt_then ?_
    refine zgg hn [(2,vb true)] [] [0] [zq [] 0 2] [(_,_)] rfl ⟨z2 rfl,zz⟩ ?_
    refine ht_ret ?_
    obtain rfl := Option.some.inj h
    exact pt_ret hio rfl (.tmp _ _ .nil) rfl rfl
   ·rintro u125 hl126 hr127 ⟨s88, s89⟩ rr130 h ho128
    refine ht_seq ?_
    refine zgg hn [_,_,_,(9,vi s89),(10,vs s),(11,vi (s.size : Int)),(12,vb (decide (s89 ≤ (s.size : Int))))] [0,1,2] [0,1,2,6] [zq [2] 3 9,zq [0] 4 10,zq [4] 5 11,zq [3,5] 6 12] [(_,_),(_,_),(_,_),(_,_)] rfl ⟨z1 rfl,z1 rfl,zp rfl (oN underlying9 rfl),z4 rfl rfl,zz⟩ ?_
    refine ht_cond _ rfl (fun hb131 => ?_) (fun hb131 => ?_)
    ·have h := cond_t hb131 h
     refine ht_skip ?_
     refine pt_then (ht_seq ?_)
     refine ht_joinS h (fun (s147 : Int) => [(0, .v (.string s)), (3, .v (.int .i64 s147)), (4, .v (.int .i64 s89))]) ?_ ?_
     ·rintro s147 h
      refine pt_then ?_
      obtain ⟨v50, hv50, h⟩ := bind_some h
      refine zg hn [_,_,_,(13,vi s89),(14,vi v50),(4,vi v50)] [0,1,2] [0,1,5] [zq [2] 3 13,zq [3] 4 14,⟨[4],[2],[5],[(.slot 4)]⟩] [(_,_),(_,_),(_,_)] rfl ⟨z1 rfl,zp rfl (oB rfl (ibind (f := Value.int .i64) (Option.some.inj hv50))),zp rfl (LOp.drop [_] (op_assign _ _ _ _ rfl rfl)),zz⟩ ?_
      exact pt_next _ (Option.some.inj h).symm rfl
     ·intro u148 h hl149 hr150
      refine ht_block ?_
      refine ht_seq ?_
      refine ht_seq ?_
      refine ht_joinS h (fun (s151 : Bool) => [(0, .v (.string s)), (3, .v (.int .i64 s88)), (4, .v (.int .i64 s89)), (24, .v (.bool s151))]) ?_ ?_
      ·rintro s151 h
       refine pt_then ?_
       refine ht_cond _ rfl (fun hb155 => ?_) (fun hb155 => ?_)
       ·have h := cond_t hb155 h
        refine ht_seq ?_
        refine ht_seq ?_
        refine ht_joinS h (fun (s156 : Bool) => [(0, .v (.string s)), (3, .v (.int .i64 s88)), (4, .v (.int .i64 s89)), (42, .v (.bool s156))]) ?_ ?_
        ·rintro s156 h
         refine pt_then ?_
         refine ht_cond _ rfl (fun hb160 => ?_) (fun hb160 => ?_)
         ·have h := cond_t hb160 h
          refine zgg hn [_,_,_,_,(2,vb false)] [0,1,2,3] [4] [zq [] 4 2] [(_,_)] rfl ⟨z2 rfl,zz⟩ ?_
          refine ht_ret ?_
          refine pt_r_then ?_
          refine pt_r_then ?_
          refine pt_r_in ?_
          refine pt_r_then ?_
          refine pt_r_then ?_
          refine pt_r_in ?_
          refine pt_r_then ?_
          have h := hr150 _ (Option.some.inj h).symm
          have h := hr127 _ (ho128 _ (Option.some.inj h).symm).symm
          obtain rfl := Option.some.inj h
          exact pt_ret hio rfl (.tmp _ _ .nil) rfl rfl
         ·have h := cond_f hb160 h
          refine ht_skip ?_
          refine pt_then ?_
          refine ht_exit ?_
          refine pt_x_then ?_
          refine pt_x_in ?_
          refine pt_pick [0, 1, 2] (by kernel_rfl) (es' := [(_,_),(_,_),(_,_)]) rfl ?_
          exact hl149 _ (Option.some.inj h).symm
        ·intro u157 h hl158 hr159
         obtain ⟨v10, hv10, h⟩ := bind_some h
         obtain ⟨v11, hv11, h⟩ := bind_some h
         refine cond_some h (fun hg8_5 h => ?_) (fun hg8_5 h => ?_)
         ·obtain ⟨v12, hv12, h⟩ := bind_some h
          obtain ⟨v13, hv13, h⟩ := bind_some h
          refine cond_some h (fun hg8_12 h => ?_) (fun hg8_12 h => ?_)
          ·obtain ⟨v14, hv14, h⟩ := bind_some h
           refine zg hn (_::_::_::_::(25,vs s)::(26,vi s89)::(27,.v (.int .u8 v10))::(28,vb v11)::(29,vb (!v11))::(30,vb true)::(31,vs s)::(32,vi s89)::(33,.v (.int .u8 v12))::(34,vb v13)::(35,vb (!v13))::(36,vb (!v13))::(37,vb true)::(38,vs s)::(39,vi s89)::(40,.v (.int .u8 v14))::(41,vb (v14 != 45))::(42,vb (v14 != 45))::[]) [0,1,2,3] [0,1,2,21] (zq [0] 4 25::zq [2] 5 26::zq [4,5] 6 27::zq [6] 7 28::zq [7] 8 29::zq [8] 9 30::zq [9,0] 10 31::zq [9,2] 11 32::zq [9,10,11] 12 33::zq [9,12] 13 34::zq [9,13] 14 35::zq [9,14] 15 36::zq [15] 16 37::zq [16,0] 17 38::zq [16,2] 18 39::zq [16,17,18] 19 40::zq [16,19] 20 41::zq [16,20] 21 42::[]) [(_,_),(_,_),(_,_),(_,_)] rfl ⟨z1 rfl,z1 rfl,zp rfl (op_chr _ _ _ s89 _ underlying9 rfl rfl hv10),zp rfl (op_call _ _ 49 _ _ rfl call49 rfl (ok_wherryref11_letter v10 _ hv11) rfl rfl),zp rfl (op_un _ _ _ _ rfl rfl),z8 hg8_5 rfl,zr' rfl (oM rfl),zr' rfl (oM rfl),zr' rfl (op_chr _ _ _ s89 _ underlying9 rfl rfl hv12),zr' rfl (op_call _ _ 50 _ _ rfl call50 rfl (ok_wherryref11_digit v12 _ hv13) rfl rfl),zr' rfl (op_un _ _ _ _ rfl rfl),z3 true rfl,z8 hg8_12 rfl,zr' rfl (oM rfl),zr' rfl (oM rfl),zr' rfl (op_chr _ _ _ s89 _ underlying9 rfl rfl hv14),zr' rfl (oB rfl rfl),z3 true rfl,zz⟩ ?_
           exact hl158 _ (Option.some.inj h).symm
          ·refine zg hn (_::_::_::_::(25,vs s)::(26,vi s89)::(27,.v (.int .u8 v10))::(28,vb v11)::(29,vb (!v11))::(30,vb true)::(31,vs s)::(32,vi s89)::(33,.v (.int .u8 v12))::(34,vb v13)::(35,vb (!v13))::(36,vb (!v13))::(37,vb false)::(38,.v undef)::(39,.v undef)::(40,.v undef)::(41,.v undef)::(42,vb false)::[]) [0,1,2,3] [0,1,2,21] (zq [0] 4 25::zq [2] 5 26::zq [4,5] 6 27::zq [6] 7 28::zq [7] 8 29::zq [8] 9 30::zq [9,0] 10 31::zq [9,2] 11 32::zq [9,10,11] 12 33::zq [9,12] 13 34::zq [9,13] 14 35::zq [9,14] 15 36::zq [15] 16 37::zq [16] 17 38::zq [16] 18 39::zq [16] 19 40::zq [16] 20 41::zq [16] 21 42::[]) [(_,_),(_,_),(_,_),(_,_)] rfl ⟨z1 rfl,z1 rfl,zp rfl (op_chr _ _ _ s89 _ underlying9 rfl rfl hv10),zp rfl (op_call _ _ 49 _ _ rfl call49 rfl (ok_wherryref11_letter v10 _ hv11) rfl rfl),zp rfl (op_un _ _ _ _ rfl rfl),z8 hg8_5 rfl,zr' rfl (oM rfl),zr' rfl (oM rfl),zr' rfl (op_chr _ _ _ s89 _ underlying9 rfl rfl hv12),zr' rfl (op_call _ _ 50 _ _ rfl call50 rfl (ok_wherryref11_digit v12 _ hv13) rfl rfl),zr' rfl (op_un _ _ _ _ rfl rfl),z3 true rfl,z8 hg8_12 rfl,zt rfl,zt rfl,zt rfl,zt rfl,z3 false rfl,zz⟩ ?_
           exact hl158 _ (Option.some.inj h).symm
         ·refine zg hn (_::_::_::_::(25,vs s)::(26,vi s89)::(27,.v (.int .u8 v10))::(28,vb v11)::(29,vb (!v11))::(30,vb false)::(31,.v undef)::(32,.v undef)::(33,.v undef)::(34,.v undef)::(35,.v undef)::(36,vb false)::(37,vb false)::(38,.v undef)::(39,.v undef)::(40,.v undef)::(41,.v undef)::(42,vb false)::[]) [0,1,2,3] [0,1,2,21] (zq [0] 4 25::zq [2] 5 26::zq [4,5] 6 27::zq [6] 7 28::zq [7] 8 29::zq [8] 9 30::zq [9] 10 31::zq [9] 11 32::zq [9] 12 33::zq [9] 13 34::zq [9] 14 35::zq [9] 15 36::zq [15] 16 37::zq [16] 17 38::zq [16] 18 39::zq [16] 19 40::zq [16] 20 41::zq [16] 21 42::[]) [(_,_),(_,_),(_,_),(_,_)] rfl ⟨z1 rfl,z1 rfl,zp rfl (op_chr _ _ _ s89 _ underlying9 rfl rfl hv10),zp rfl (op_call _ _ 49 _ _ rfl call49 rfl (ok_wherryref11_letter v10 _ hv11) rfl rfl),zp rfl (op_un _ _ _ _ rfl rfl),z8 hg8_5 rfl,zt rfl,zt rfl,zt rfl,zt rfl,zt rfl,z3 false rfl,z1 rfl,zt rfl,zt rfl,zt rfl,zt rfl,z3 false rfl,zz⟩ ?_
          exact hl158 _ (Option.some.inj h).symm
       ·have h := cond_f hb155 h
        refine ht_skip ?_
        refine pt_then (ht_seq ?_)
        refine ht_seq ?_
        refine ht_joinS h (fun (s161 : Bool) => [(0, .v (.string s)), (4, .v (.int .i64 s89)), (60, .v (.bool s161))]) ?_ ?_
        ·rintro s161 h
         refine pt_then ?_
         refine ht_cond _ rfl (fun hb165 => ?_) (fun hb165 => ?_)
         ·have h := cond_t hb165 h
          refine zgg hn [_,_,_,(2,vb false)] [0,1,2] [3] [zq [] 3 2] [(_,_)] rfl ⟨z2 rfl,zz⟩ ?_
          refine ht_ret ?_
          refine pt_r_then ?_
          refine pt_r_in ?_
          refine pt_r_then ?_
          refine pt_r_then ?_
          refine pt_r_in ?_
          refine pt_r_then ?_
          have h := hr150 _ (Option.some.inj h).symm
          have h := hr127 _ (ho128 _ (Option.some.inj h).symm).symm
          obtain rfl := Option.some.inj h
          exact pt_ret hio rfl (.tmp _ _ .nil) rfl rfl
         ·have h := cond_f hb165 h
          refine ht_skip ?_
          refine pt_then ?_
          obtain ⟨v30, hv30, h⟩ := bind_some h
          refine zg hn [_,_,_,(61,vi s89),(62,vi v30),(3,vi v30)] [0,1,2] [0,1,5] [zq [1] 3 61,zq [3] 4 62,zq [4] 5 3] [(_,_),(_,_),(_,_)] rfl ⟨z1 rfl,zp rfl (oB rfl (ibind (f := Value.int .i64) (Option.some.inj hv30))),z2 rfl,zz⟩ ?_
          refine pt_inb ?_
          refine pt_pick [0, 2, 1] (by kernel_rfl) (es' := [(_,_),(_,_),(_,_)]) rfl ?_
          exact hl149 _ (Option.some.inj h).symm
        ·intro u162 h hl163 hr164
         obtain ⟨v20, hv20, h⟩ := bind_some h
         obtain ⟨v21, hv21, h⟩ := bind_some h
         refine cond_some h (fun hg10_5 h => ?_) (fun hg10_5 h => ?_)
         ·refine zg hn (_::_::_::_::(43,vi s89)::(44,vi s88)::(45,vi v20)::(46,vb v21)::(47,vb (!v21))::(48,vb true)::(49,.v undef)::(50,.v undef)::(51,.v undef)::(52,.v undef)::(53,vb true)::(54,vb true)::(55,.v undef)::(56,.v undef)::(57,.v undef)::(58,.v undef)::(59,.v undef)::(60,vb true)::[]) [0,1,2,3] [0,2,21] (zq [2] 4 43::zq [1] 5 44::zq [4,5] 6 45::zq [6] 7 46::zq [7] 8 47::zq [8] 9 48::zq [9] 10 49::zq [9] 11 50::zq [9] 12 51::zq [9] 13 52::zq [9] 14 53::zq [14] 15 54::zq [15] 16 55::zq [15] 17 56::zq [15] 18 57::zq [15] 19 58::zq [15] 20 59::zq [15] 21 60::[]) [(_,_),(_,_),(_,_)] rfl ⟨z1 rfl,z1 rfl,zp rfl (oB rfl (ibind (f := Value.int .i64) (Option.some.inj hv20))),zp rfl (op_call _ _ 48 _ _ rfl call48 rfl (ok_wherryref11_in v20 1 63 _ hv21) rfl rfl),zp rfl (op_un _ _ _ _ rfl rfl),z8 hg10_5 rfl,zf rfl,zf rfl,zf rfl,zf rfl,z3 true rfl,z1 rfl,zf rfl,zf rfl,zf rfl,zf rfl,zf rfl,z3 true rfl,zz⟩ ?_
          exact hl163 _ (Option.some.inj h).symm
         ·obtain ⟨v22, hv22, h⟩ := bind_some h
          refine cond_some h (fun hg10_11 h => ?_) (fun hg10_11 h => ?_)
          ·refine zg hn (_::_::_::_::(43,vi s89)::(44,vi s88)::(45,vi v20)::(46,vb v21)::(47,vb (!v21))::(48,vb false)::(49,vs s)::(50,vi s88)::(51,.v (.int .u8 v22))::(52,vb (v22 == 45))::(53,vb (v22 == 45))::(54,vb true)::(55,.v undef)::(56,.v undef)::(57,.v undef)::(58,.v undef)::(59,.v undef)::(60,vb true)::[]) [0,1,2,3] [0,2,21] (zq [2] 4 43::zq [1] 5 44::zq [4,5] 6 45::zq [6] 7 46::zq [7] 8 47::zq [8] 9 48::zq [9,0] 10 49::zq [9,1] 11 50::zq [9,10,11] 12 51::zq [9,12] 13 52::zq [9,13] 14 53::zq [14] 15 54::zq [15] 16 55::zq [15] 17 56::zq [15] 18 57::zq [15] 19 58::zq [15] 20 59::zq [15] 21 60::[]) [(_,_),(_,_),(_,_)] rfl ⟨z1 rfl,z1 rfl,zp rfl (oB rfl (ibind (f := Value.int .i64) (Option.some.inj hv20))),zp rfl (op_call _ _ 48 _ _ rfl call48 rfl (ok_wherryref11_in v20 1 63 _ hv21) rfl rfl),zp rfl (op_un _ _ _ _ rfl rfl),z8 hg10_5 rfl,zr' rfl (oM rfl),zr' rfl (oM rfl),zr' rfl (op_chr _ _ _ s88 _ underlying9 rfl rfl hv22),zr' rfl (oB rfl rfl),z3 false rfl,z8 hg10_11 rfl,zf rfl,zf rfl,zf rfl,zf rfl,zf rfl,z3 true rfl,zz⟩ ?_
           exact hl163 _ (Option.some.inj h).symm
          ·obtain ⟨v23, hv23, h⟩ := bind_some h
           obtain ⟨v24, hv24, h⟩ := bind_some h
           refine zg hn (_::_::_::_::(43,vi s89)::(44,vi s88)::(45,vi v20)::(46,vb v21)::(47,vb (!v21))::(48,vb false)::(49,vs s)::(50,vi s88)::(51,.v (.int .u8 v22))::(52,vb (v22 == 45))::(53,vb (v22 == 45))::(54,vb false)::(55,vs s)::(56,vi s89)::(57,vi v23)::(58,.v (.int .u8 v24))::(59,vb (v24 == 45))::(60,vb (v24 == 45))::[]) [0,1,2,3] [0,2,21] (zq [2] 4 43::zq [1] 5 44::zq [4,5] 6 45::zq [6] 7 46::zq [7] 8 47::zq [8] 9 48::zq [9,0] 10 49::zq [9,1] 11 50::zq [9,10,11] 12 51::zq [9,12] 13 52::zq [9,13] 14 53::zq [14] 15 54::zq [15,0] 16 55::zq [15,2] 17 56::zq [15,17] 18 57::zq [15,16,18] 19 58::zq [15,19] 20 59::zq [15,20] 21 60::[]) [(_,_),(_,_),(_,_)] rfl ⟨z1 rfl,z1 rfl,zp rfl (oB rfl (ibind (f := Value.int .i64) (Option.some.inj hv20))),zp rfl (op_call _ _ 48 _ _ rfl call48 rfl (ok_wherryref11_in v20 1 63 _ hv21) rfl rfl),zp rfl (op_un _ _ _ _ rfl rfl),z8 hg10_5 rfl,zr' rfl (oM rfl),zr' rfl (oM rfl),zr' rfl (op_chr _ _ _ s88 _ underlying9 rfl rfl hv22),zr' rfl (oB rfl rfl),z3 false rfl,z8 hg10_11 rfl,zr' rfl (oM rfl),zr' rfl (oM rfl),zr' rfl (oB rfl (ibind (f := Value.int .i64) (Option.some.inj hv23))),zr' rfl (op_chr _ _ _ v23 _ underlying9 rfl rfl hv24),zr' rfl (oB rfl rfl),z3 false rfl,zz⟩ ?_
           exact hl163 _ (Option.some.inj h).symm
      ·intro u152 h hl153 hr154
       refine cond_some h (fun hg7_4 h => ?_) (fun hg7_4 h => ?_)
       ·obtain ⟨v4, hv4, h⟩ := bind_some h
        refine zg hn [_,_,_,_,(15,vi s89),(16,vs s),(17,vi (s.size : Int)),(18,vb (decide (s89 < (s.size : Int)))),(19,vb true),(20,vs s),(21,vi s89),(22,.v (.int .u8 v4)),(23,vb (v4 != 46)),(24,vb (v4 != 46))] [0,1,2,3] [0,1,2,13] [zq [2] 4 15,zq [0] 5 16,zq [5] 6 17,zq [4,6] 7 18,zq [7] 8 19,zq [8,0] 9 20,zq [8,2] 10 21,zq [8,9,10] 11 22,zq [8,11] 12 23,zq [8,12] 13 24] [(_,_),(_,_),(_,_),(_,_)] rfl ⟨z1 rfl,z1 rfl,zp rfl (oN underlying9 rfl),z4 rfl rfl,z8 hg7_4 rfl,zr' rfl (oM rfl),zr' rfl (oM rfl),zr' rfl (op_chr _ _ _ s89 _ underlying9 rfl rfl hv4),zr' rfl (oB rfl rfl),z3 true rfl,zz⟩ ?_
        exact hl153 _ (Option.some.inj h).symm
       ·refine zg hn [_,_,_,_,(15,vi s89),(16,vs s),(17,vi (s.size : Int)),(18,vb (decide (s89 < (s.size : Int)))),(19,vb false),(20,.v undef),(21,.v undef),(22,.v undef),(23,.v undef),(24,vb false)] [0,1,2,3] [0,1,2,13] [zq [2] 4 15,zq [0] 5 16,zq [5] 6 17,zq [4,6] 7 18,zq [7] 8 19,zq [8] 9 20,zq [8] 10 21,zq [8] 11 22,zq [8] 12 23,zq [8] 13 24] [(_,_),(_,_),(_,_),(_,_)] rfl ⟨z1 rfl,z1 rfl,zp rfl (oN underlying9 rfl),z4 rfl rfl,z8 hg7_4 rfl,zt rfl,zt rfl,zt rfl,zt rfl,z3 false rfl,zz⟩ ?_
        exact hl153 _ (Option.some.inj h).symm
    ·have h := cond_f hb131 h
     refine ht_exit ?_
     refine pt_x_then ?_
     refine pt_x_then ?_
     refine pt_x_in ?_
     refine pt_pick [] (by kernel_rfl) (es' := []) rfl ?_
     exact hl126 _ (ho128 _ (Option.some.inj h).symm).symm
theorem ok_wherryref11_Path (p : T_Path) (r : Bool) (h : Sh.wherryref11_Path p = some r) : FnOK Tryd.prog 28 [.agg [.v (.bool p.Null), .v (.string p.Local), .v (.string p.Domain)]] (.v (.bool r)) := by
  unfold Sh.wherryref11_Path at h
  refine fn_ok func28 rfl (zl rfl) rfl rfl fun g0 hn hio => ?_
  refine zgg hn [_,(1,.box 23 [vb p.Null,vs p.Local,vs p.Domain]),(2,vb false)] [0] [1] [zq [0] 1 1,zq [] 2 2] [(_,_)] rfl ⟨zp rfl (op_box _ _ _ _ rfl rfl rfl),z2 rfl,zz⟩ ?_
  refine ht_seq ?_
  refine zgg hn [_,(3,.ptr 1 0),(4,vb p.Null)] [0] [0,2] [zq [0] 1 3,zq [1,0] 2 4] [(_,_),(_,_)] rfl ⟨zp rfl (oF underlying23 rfl sz4),zp rfl (oL underlying4 rfl),zz⟩ ?_
  refine ht_cond _ rfl (fun hb1 => ?_) (fun hb1 => ?_)
  ·have h := cond_t hb1 h
   refine ht_seq ?_
   refine ht_joinS h (fun (s2 : Bool) => [(2, .v (.bool s2))]) ?_ ?_
   ·rintro s2 h
    refine pt_then (ht_ret ?_)
    refine pt_r_then ?_
    obtain rfl := Option.some.inj h
    exact pt_ret hio rfl (.tmp _ _ .nil) rfl rfl
   ·intro u3 h hl4 hr5
    refine cond_some h (fun hg2_3 h => ?_) (fun hg2_3 h => ?_)
    ·refine zg hn [_,_,(5,.ptr 1 1),(6,vs p.Local),(7,vb (p.Local.toList == z0.toList)),(8,vb true),(9,.ptr 1 2),(10,vs p.Domain),(11,vb (p.Domain.toList == z0.toList)),(12,vb (p.Domain.toList == z0.toList)),(2,vb (p.Domain.toList == z0.toList))] [0,1] [10] [zq [0] 2 5,zq [2,0] 3 6,zq [3] 4 7,zq [4] 5 8,zq [5,0] 6 9,zq [5,6,0] 7 10,zq [5,7] 8 11,zq [5,8] 9 12,zq [9] 10 2] [(_,_)] rfl ⟨zp rfl (oF underlying23 rfl sz9),zp rfl (oL underlying9 rfl),z4 rfl rfl,z8 hg2_3 rfl,zr' rfl (oF underlying23 rfl sz9),zr' rfl (oL underlying9 rfl),zr' rfl (oB rfl rfl),z3 true rfl,z2 rfl,zz⟩ ?_
     exact hl4 _ (Option.some.inj h).symm
    ·refine zg hn [_,_,(5,.ptr 1 1),(6,vs p.Local),(7,vb (p.Local.toList == z0.toList)),(8,vb false),(9,.v undef),(10,.v undef),(11,.v undef),(12,vb false),(2,vb false)] [0,1] [10] [zq [0] 2 5,zq [2,0] 3 6,zq [3] 4 7,zq [4] 5 8,zq [5] 6 9,zq [5] 7 10,zq [5] 8 11,zq [5] 9 12,zq [9] 10 2] [(_,_)] rfl ⟨zp rfl (oF underlying23 rfl sz9),zp rfl (oL underlying9 rfl),z4 rfl rfl,z8 hg2_3 rfl,zt rfl,zt rfl,zt rfl,z3 false rfl,z2 rfl,zz⟩ ?_
     exact hl4 _ (Option.some.inj h).symm
  ·have h := cond_f hb1 h
   refine ht_skip ?_
   refine pt_then (ht_seq ?_)
   refine ht_joinS h (fun (s8 : Bool) => [(2, .v (.bool s8))]) ?_ ?_
   ·rintro s8 h
    refine pt_then (ht_ret ?_)
    obtain rfl := Option.some.inj h
    exact pt_ret hio rfl (.tmp _ _ .nil) rfl rfl
   ·intro u9 h hl10 hr11
    obtain ⟨v6, hv6, h⟩ := bind_some h
    refine cond_some h (fun hg3_3 h => ?_) (fun hg3_3 h => ?_)
    ·obtain ⟨v7, hv7, h⟩ := bind_some h
     refine zg hn [_,_,(13,.ptr 1 1),(14,vs p.Local),(15,vb v6),(16,vb true),(17,.ptr 1 2),(18,vs p.Domain),(19,vb v7),(20,vb v7),(2,vb v7)] [0,1] [10] [zq [0] 2 13,zq [2,0] 3 14,zq [3] 4 15,zq [4] 5 16,zq [5,0] 6 17,zq [5,6,0] 7 18,zq [5,7] 8 19,zq [5,8] 9 20,zq [9] 10 2] [(_,_)] rfl ⟨zp rfl (oF underlying23 rfl sz9),zp rfl (oL underlying9 rfl),zp rfl (op_call _ _ 51 _ _ rfl call51 rfl (ok_wherryref11_Local p.Local _ hv6) rfl rfl),z8 hg3_3 rfl,zr' rfl (oF underlying23 rfl sz9),zr' rfl (oL underlying9 rfl),zr' rfl (op_call _ _ 27 _ _ rfl call27 rfl (ok_wherryref11_Domain p.Domain _ hv7) rfl rfl),z3 true rfl,z2 rfl,zz⟩ ?_
     exact hl10 _ (Option.some.inj h).symm
    ·refine zg hn [_,_,(13,.ptr 1 1),(14,vs p.Local),(15,vb v6),(16,vb false),(17,.v undef),(18,.v undef),(19,.v undef),(20,vb false),(2,vb false)] [0,1] [10] [zq [0] 2 13,zq [2,0] 3 14,zq [3] 4 15,zq [4] 5 16,zq [5] 6 17,zq [5] 7 18,zq [5] 8 19,zq [5] 9 20,zq [9] 10 2] [(_,_)] rfl ⟨zp rfl (oF underlying23 rfl sz9),zp rfl (oL underlying9 rfl),zp rfl (op_call _ _ 51 _ _ rfl call51 rfl (ok_wherryref11_Local p.Local _ hv6) rfl rfl),z8 hg3_3 rfl,zt rfl,zt rfl,zt rfl,z3 false rfl,z2 rfl,zz⟩ ?_
     exact hl10 _ (Option.some.inj h).symm
theorem ok_wherryref11_keep (p : T_Path) (ok : Bool) (r : (T_Path × Bool)) (h : Sh.wherryref11_keep p ok = some r) : FnOK Tryd.prog 47 [.agg [.v (.bool p.Null), .v (.string p.Local), .v (.string p.Domain)], .v (.bool ok)] (.tup [.agg [.v (.bool r.1.Null), .v (.string r.1.Local), .v (.string r.1.Domain)], .v (.bool r.2)]) := by
  unfold Sh.wherryref11_keep at h
  refine fn_ok func47 rfl (zl rfl) rfl rfl fun g0 hn hio => ?_
  refine zgg hn [_,_,(2,.box 23 [vb p.Null,vs p.Local,vs p.Domain]),(4,.box 23 [vb false,vs z0,vs z0]),(5,vb false)] [0,1] [1,2,3] [zq [0] 2 2,zq [] 3 4,zq [] 4 5] [(_,_),(_,_),(_,_)] rfl ⟨zp rfl (op_box _ _ _ _ rfl rfl rfl),zp rfl (op_alloc _ _ zr23),z2 rfl,zz⟩ ?_
  refine ht_seq ?_
  refine zgg hn [_,_,_,(6,vb ok),(7,vb (!ok))] [0,1,2] [1,2,4] [zq [0] 3 6,zq [3] 4 7] [(_,_),(_,_),(_,_)] rfl ⟨z1 rfl,zp rfl (op_un _ _ _ _ rfl rfl),zz⟩ ?_
  refine ht_cond _ rfl (fun hb1 => ?_) (fun hb1 => ?_)
  ·have h := cond_t hb1 h
   refine zgg hn [_,_,_,(8,.agg [vb false,vs z0,vs z0]),(4,.box 23 [vb false,vs z0,vs z0]),(5,vb false)] [0,1,2] [4,5] [zq [] 3 8,⟨[],[3,1],[4],[.cell 4 0,.cell 4 1,.cell 4 2]⟩,zq [] 5 5] [(_,_),(_,_)] rfl ⟨zp rfl (op_build _ _ _ _ [1, 1, 1] _ _ underlying23 zr23 (fs23 _ underlying23) Src.nil rfl rfl rfl),zp rfl (op_store_self _ _ _ 8 4 3 sz23 rfl rfl rfl rfl rfl (.eq _ (.eq _ (.eq _ (.nil _)))) rfl),z2 rfl,zz⟩ ?_
   refine ht_ret ?_
   refine pt_r_then ?_
   obtain rfl := Option.some.inj h
   exact pt_ret hio rfl (.cellA _ _ _ _ underlying23 rfl sz23 (.tmp _ _ .nil)) rfl rfl
  ·have h := cond_f hb1 h
   refine ht_skip ?_
   refine pt_then ?_
   refine zgg hn [_,_,_,(9,.agg [vb p.Null,vs p.Local,vs p.Domain]),(4,.box 23 [vb p.Null,vs p.Local,vs p.Domain]),(5,vb true)] [0,1,2] [4,5] [zq [0] 3 9,⟨[3],[1],[4],[.cell 4 0,.cell 4 1,.cell 4 2]⟩,zq [] 5 5] [(_,_),(_,_)] rfl ⟨zp rfl (op_loadA _ _ _ _ _ _ _ underlying23 rfl sz23 rfl rfl (zl rfl) rfl rfl),zp rfl (oS sz23 rfl),z2 rfl,zz⟩ ?_
   refine ht_ret ?_
   obtain rfl := Option.some.inj h
   exact pt_ret hio rfl (.cellA _ _ _ _ underlying23 rfl sz23 (.tmp _ _ .nil)) rfl rfl
theorem ok_wherryref11_Parse (s : ByteArray) (r : (T_Path × Bool)) (h : Sh.wherryref11_Parse s = some r) : FnOK Tryd.prog 26 [.v (.string s)] (.tup [.agg [.v (.bool r.1.Null), .v (.string r.1.Local), .v (.string r.1.Domain)], .v (.bool r.2)]) := by
  unfold Sh.wherryref11_Parse at h
  refine fn_ok func26 rfl (zl rfl) rfl rfl fun g0 hn hio => ?_
  refine zgg hn [_,(2,.box 23 [vb false,vs z0,vs z0]),(3,vb false)] [0] [0,1] [zq [] 1 2,zq [] 2 3] [(_,_),(_,_)] rfl ⟨zp rfl (op_alloc _ _ zr23),z2 rfl,zz⟩ ?_
  refine ht_seq ?_
  refine zgg hn [_,_,(6,vs s),(7,vb (s.toList == (⟨#[60,62]⟩ : ByteArray).toList))] [0,1] [0,1,3] [zq [0] 2 6,zq [2] 3 7] [(_,_),(_,_),(_,_)] rfl ⟨z1 rfl,z4 rfl rfl,zz⟩ ?_
  refine ht_cond _ rfl (fun hb1 => ?_) (fun hb1 => ?_)
  ·have h := cond_t hb1 h
   refine zgg hn [_,_,_,(8,.agg [vb true,vs z0,vs z0]),(2,.box 23 [vb true,vs z0,vs z0]),(3,vb true)] [0,1,2] [4,5] [zq [] 3 8,⟨[3],[1],[4],[.cell 2 0,.cell 2 1,.cell 2 2]⟩,zq [] 5 3] [(_,_),(_,_)] rfl ⟨zp rfl (op_build _ _ _ _ [1, 1, 1] _ _ underlying23 zr23 (fs23 _ underlying23) (.copy _ Src.nil) rfl rfl rfl),zp rfl (oS sz23 rfl),z2 rfl,zz⟩ ?_
   refine ht_ret ?_
   refine pt_r_then ?_
   obtain rfl := Option.some.inj h
   exact pt_ret hio rfl (.cellA _ _ _ _ underlying23 rfl sz23 (.tmp _ _ .nil)) rfl rfl
  ·have h := cond_f hb1 h
   refine ht_skip ?_
   refine pt_then (ht_seq ?_)
   refine ht_seq ?_
   refine ht_joinS h (fun (s5 : Bool) => [(0, .v (.string s)), (2, .box 23 [.v (.bool false), .v (.string (⟨#[]⟩ : ByteArray)), .v (.string (⟨#[]⟩ : ByteArray))]), (24, .v (.bool s5))]) ?_ ?_
   ·rintro s5 h
    refine pt_then ?_
    refine ht_cond _ rfl (fun hb9 => ?_) (fun hb9 => ?_)
    ·have h := cond_t hb9 h
     refine zgg hn [_,_,_,(25,.agg [vb false,vs z0,vs z0]),(2,.box 23 [vb false,vs z0,vs z0]),(3,vb false)] [0,1,2] [4,5] [zq [] 3 25,⟨[],[3,1],[4],[.cell 2 0,.cell 2 1,.cell 2 2]⟩,zq [] 5 3] [(_,_),(_,_)] rfl ⟨zp rfl (op_build _ _ _ _ [1, 1, 1] _ _ underlying23 zr23 (fs23 _ underlying23) Src.nil rfl rfl rfl),zp rfl (op_store_self _ _ _ 25 2 3 sz23 rfl rfl rfl rfl rfl (.eq _ (.eq _ (.eq _ (.nil _)))) rfl),z2 rfl,zz⟩ ?_
     refine ht_ret ?_
     refine pt_r_then ?_
     obtain rfl := Option.some.inj h
     exact pt_ret hio rfl (.cellA _ _ _ _ underlying23 rfl sz23 (.tmp _ _ .nil)) rfl rfl
    ·have h := cond_f hb9 h
     refine ht_skip ?_
     refine pt_then (ht_seq ?_)
     obtain ⟨v10, hv10, h⟩ := bind_some h
     obtain ⟨v11, hv11, h⟩ := bind_some h
     refine zg hn [_,_,_,(26,vs s),(27,vs s),(28,vi (s.size : Int)),(29,vi v10),(30,vs v11),(0,vs v11)] [0,1,2] [1,8] [zq [0] 3 26,zq [0] 4 27,zq [4] 5 28,zq [5] 6 29,zq [3,6] 7 30,⟨[7],[0],[8],[(.slot 0)]⟩] [(_,_),(_,_)] rfl ⟨z1 rfl,z1 rfl,zp rfl (oN underlying9 rfl),zp rfl (oB rfl (ibind (f := Value.int .i64) (Option.some.inj hv10))),zp rfl (op_substr _ _ _ 1 v10 _ underlying9 rfl ⟨_, rfl⟩ ⟨_, rfl⟩ hv11),zp rfl (LOp.drop [_] (op_assign _ _ _ _ rfl rfl)),zz⟩ ?_
     refine pt_then (ht_seq ?_)
     refine zgg hn [_,_,(4,vi 0)] [0,1] [0,1,2] [zq [] 2 4] [(_,_),(_,_),(_,_)] rfl ⟨z2 rfl,zz⟩ ?_
     refine ht_loopS h (fun (s24 : Int) => [(2, .box 23 [.v (.bool false), .v (.string (⟨#[]⟩ : ByteArray)), .v (.string (⟨#[]⟩ : ByteArray))]), (0, .v (.string v11)), (4, .v (.int .i64 s24))]) (fun (() : Unit) => [(2, .box 23 [.v (.bool false), .v (.string (⟨#[]⟩ : ByteArray)), .v (.string (⟨#[]⟩ : ByteArray))])]) ?_ ?_
     ·rintro ⟨⟩ h
      refine pt_then ?_
      refine zgg hn [_,(55,.agg [vb false,vs z0,vs z0]),(2,.box 23 [vb false,vs z0,vs z0]),(3,vb false)] [0] [2,3] [zq [] 1 55,⟨[],[1,0],[2],[.cell 2 0,.cell 2 1,.cell 2 2]⟩,zq [] 3 3] [(_,_),(_,_)] rfl ⟨zp rfl (op_build _ _ _ _ [1, 1, 1] _ _ underlying23 zr23 (fs23 _ underlying23) Src.nil rfl rfl rfl),zp rfl (op_store_self _ _ _ 55 2 3 sz23 rfl rfl rfl rfl rfl (.eq _ (.eq _ (.eq _ (.nil _)))) rfl),z2 rfl,zz⟩ ?_
      refine ht_ret ?_
      obtain rfl := Option.some.inj h
      exact pt_ret hio rfl (.cellA _ _ _ _ underlying23 rfl sz23 (.tmp _ _ .nil)) rfl rfl
     ·rintro u27 hl28 hr29 s24 rr32 h ho30
      refine ht_seq ?_
      refine zgg hn [_,_,_,(31,vi s24),(32,vs v11),(33,vi (v11.size : Int)),(34,vb (decide (s24 < (v11.size : Int))))] [0,1,2] [0,1,2,6] [zq [2] 3 31,zq [1] 4 32,zq [4] 5 33,zq [3,5] 6 34] [(_,_),(_,_),(_,_),(_,_)] rfl ⟨z1 rfl,z1 rfl,zp rfl (oN underlying9 rfl),z4 rfl rfl,zz⟩ ?_
      refine ht_cond _ rfl (fun hb33 => ?_) (fun hb33 => ?_)
      ·have h := cond_t hb33 h
       refine ht_skip ?_
       refine pt_then (ht_seq ?_)
       refine ht_block ?_
       refine ht_seq ?_
       obtain ⟨v13, hv13, h⟩ := bind_some h
       refine zg hn [_,_,_,_,(37,vs v11),(38,vi s24),(39,.v (.int .u8 v13)),(40,vb (v13 == 64))] [0,1,2,3] [0,1,2,7] [zq [1] 4 37,zq [2] 5 38,zq [4,5] 6 39,zq [6] 7 40] [(_,_),(_,_),(_,_),(_,_)] rfl ⟨z1 rfl,z1 rfl,zp rfl (op_chr _ _ _ s24 _ underlying9 rfl rfl hv13),z4 rfl rfl,zz⟩ ?_
       refine pt_then ?_
       refine ht_cond _ rfl (fun hb34 => ?_) (fun hb34 => ?_)
       ·have h := cond_t hb34 h
        refine ht_seq ?_
        obtain ⟨v15, hv15, h⟩ := bind_some h
        obtain ⟨v16, hv16, h⟩ := bind_some h
        obtain ⟨v17, hv17, h⟩ := bind_some h
        refine ht_anyR (by kernel_rfl) hn (El := [_, _, _, _, (41, .v (.string v11)), (42, .v (.int .i64 s24)), (43, .v (.string v15)), (44, .v (.string v11)), (45, .v (.int .i64 s24)), (46, .v (.int .i64 v16)), (47, .v (.string v17)), (48, .agg [.v (.bool false), .v (.string v15), .v (.string v17)]), (5, .box 23 [.v (.bool false), .v (.string (⟨#[]⟩ : ByteArray)), .v (.string (⟨#[]⟩ : ByteArray))]), (5, .box 23 [.v (.bool false), .v (.string v15), .v (.string v17)])]) (init := [0, 1, 2, 3]) (fin := [0, 13]) (sps := [zq [1] 4 41, zq [2] 5 42, zq [4,5] 6 43, zq [1] 7 44, zq [2] 8 45, zq [8] 9 46, zq [7,9] 10 47, zq [6,10] 11 48, zq [] 12 5, ⟨[11], [12], [13], [.cell 5 0, .cell 5 1, .cell 5 2]⟩]) (es' := [(_,_),(5, .box 23 [.v (.bool false), .v (.string v15), .v (.string v17)])]) (by kernel_rfl) rfl rfl ⟨z1 rfl,z1 rfl,zp rfl (op_substr _ _ _ 0 s24 _ underlying9 rfl rfl ⟨_, rfl⟩ hv15),z1 rfl,z1 rfl,zp rfl (oB rfl (ibind (f := Value.int .i64) (Option.some.inj hv16))),zp rfl (op_substr _ _ _ v16 (v11.size : Int) _ underlying9 rfl ⟨_, rfl⟩ rfl hv17),zp rfl (op_build _ _ _ _ [1, 1, 1] _ _ underlying23 zr23 (fs23 _ underlying23) (.copy _ (.copy _ Src.nil)) rfl rfl rfl),zp rfl (op_alloc _ _ zr23),zp rfl (oS sz23 rfl),zz⟩ ?_
        refine pt_then (ht_seq ?_)
        obtain ⟨v18, hv18, h⟩ := bind_some h
        obtain ⟨v19, hv19, h⟩ := bind_some h
        refine ht_anyR (by kernel_rfl) hn (El := [_, _, (49, .agg [.v (.bool false), .v (.string v15), .v (.string v17)]), (50, .agg [.v (.bool false), .v (.string v15), .v (.string v17)]), (51, .v (.bool v18)), (52, .tup [.agg [.v (.bool v19.1.Null), .v (.string v19.1.Local), .v (.string v19.1.Domain)], .v (.bool v19.2)]), (53, .agg [.v (.bool v19.1.Null), .v (.string v19.1.Local), .v (.string v19.1.Domain)]), (54, .v (.bool v19.2)), (2, .box 23 [.v (.bool v19.1.Null), .v (.string v19.1.Local), .v (.string v19.1.Domain)]), (3, .v (.bool v19.2))]) (init := [0, 1]) (fin := [8, 9]) (sps := [zq [1] 2 49, zq [1] 3 50, zq [3] 4 51, zq [2,4] 5 52, zq [5] 6 53, zq [5] 7 54, ⟨[6], [0], [8], [.cell 2 0, .cell 2 1, .cell 2 2]⟩, zq [7] 9 3]) (es' := [(2, .box 23 [.v (.bool v19.1.Null), .v (.string v19.1.Local), .v (.string v19.1.Domain)]), (3, .v (.bool v19.2))]) (by kernel_rfl) rfl rfl ⟨zp rfl (op_loadA _ _ _ _ _ _ _ underlying23 rfl sz23 rfl rfl (zl rfl) rfl rfl),zp rfl (op_loadA _ _ _ _ _ _ _ underlying23 rfl sz23 rfl rfl (zl rfl) rfl rfl),zp rfl (op_call _ _ 28 _ _ rfl call28 rfl (ok_wherryref11_Path (T_Path.mk false v15 v17) _ hv18) rfl rfl),zp rfl (op_call _ _ 47 _ _ rfl call47 rfl (ok_wherryref11_keep (T_Path.mk false v15 v17) v18 _ hv19) rfl rfl),zp rfl (op_extract_no _ _ _ _ _ _ rfl rfl (zl rfl) rfl rfl),zp rfl (oE rfl),zp rfl (oS sz23 rfl),z2 rfl,zz⟩ ?_
        refine pt_then (ht_ret ?_)
        refine pt_r_in ?_
        refine pt_r_then ?_
        refine pt_r_then ?_
        refine pt_r_in ?_
        refine pt_r_then ?_
        have h := hr29 _ (ho30 _ (Option.some.inj h).symm).symm
        obtain rfl := Option.some.inj h
        exact pt_ret hio rfl (.cellA _ _ _ _ underlying23 rfl sz23 (.tmp _ _ .nil)) rfl rfl
       ·have h := cond_f hb34 h
        refine ht_skip ?_
        refine pt_inb ?_
        refine pt_then ?_
        obtain ⟨v20, hv20, h⟩ := bind_some h
        refine zg hn [_,_,_,_,(35,vi s24),(36,vi v20),(4,vi v20)] [0,1,2,3] [0,1,6] [zq [2] 4 35,zq [4] 5 36,⟨[5],[2],[6],[(.slot 4)]⟩] [(_,_),(_,_),(_,_)] rfl ⟨z1 rfl,zp rfl (oB rfl (ibind (f := Value.int .i64) (Option.some.inj hv20))),zp rfl (LOp.drop [_] (op_assign _ _ _ _ rfl rfl)),zz⟩ ?_
        exact pt_next _ (Option.some.inj h).symm rfl
      ·have h := cond_f hb33 h
       refine ht_exit ?_
       refine pt_x_then ?_
       refine pt_x_then ?_
       refine pt_x_in ?_
       refine pt_pick [0] (by kernel_rfl) (es' := [(_,_)]) rfl ?_
       exact hl28 _ (ho30 _ (Option.some.inj h).symm).symm
   ·intro u6 h hl7 hr8
    refine cond_some h (fun hg3_3 h => ?_) (fun hg3_3 h => ?_)
    ·refine zg hn (_::_::_::(9,vs s)::(10,vi (s.size : Int))::(11,vb (decide ((s.size : Int) < 2)))::(12,vb true)::(13,.v undef)::(14,.v undef)::(15,.v undef)::(16,vb true)::(17,vb true)::(18,.v undef)::(19,.v undef)::(20,.v undef)::(21,.v undef)::(22,.v undef)::(23,.v undef)::(24,vb true)::[]) [0,1,2] [0,1,18] (zq [0] 3 9::zq [3] 4 10::zq [4] 5 11::zq [5] 6 12::zq [6] 7 13::zq [6] 8 14::zq [6] 9 15::zq [6] 10 16::zq [10] 11 17::zq [11] 12 18::zq [11] 13 19::zq [11] 14 20::zq [11] 15 21::zq [11] 16 22::zq [11] 17 23::zq [11] 18 24::[]) [(_,_),(_,_),(_,_)] rfl ⟨z1 rfl,zp rfl (oN underlying9 rfl),z4 rfl rfl,z8 hg3_3 rfl,zf rfl,zf rfl,zf rfl,z3 true rfl,z1 rfl,zf rfl,zf rfl,zf rfl,zf rfl,zf rfl,zf rfl,z3 true rfl,zz⟩ ?_
     exact hl7 _ (Option.some.inj h).symm
    ·obtain ⟨v2, hv2, h⟩ := bind_some h
     refine cond_some h (fun hg3_8 h => ?_) (fun hg3_8 h => ?_)
     ·refine zg hn (_::_::_::(9,vs s)::(10,vi (s.size : Int))::(11,vb (decide ((s.size : Int) < 2)))::(12,vb false)::(13,vs s)::(14,.v (.int .u8 v2))::(15,vb (v2 != 60))::(16,vb (v2 != 60))::(17,vb true)::(18,.v undef)::(19,.v undef)::(20,.v undef)::(21,.v undef)::(22,.v undef)::(23,.v undef)::(24,vb true)::[]) [0,1,2] [0,1,18] (zq [0] 3 9::zq [3] 4 10::zq [4] 5 11::zq [5] 6 12::zq [6,0] 7 13::zq [6,7] 8 14::zq [6,8] 9 15::zq [6,9] 10 16::zq [10] 11 17::zq [11] 12 18::zq [11] 13 19::zq [11] 14 20::zq [11] 15 21::zq [11] 16 22::zq [11] 17 23::zq [11] 18 24::[]) [(_,_),(_,_),(_,_)] rfl ⟨z1 rfl,zp rfl (oN underlying9 rfl),z4 rfl rfl,z8 hg3_3 rfl,zr' rfl (oM rfl),zr' rfl (op_chr _ _ _ 0 _ underlying9 rfl rfl hv2),zr' rfl (oB rfl rfl),z3 false rfl,z8 hg3_8 rfl,zf rfl,zf rfl,zf rfl,zf rfl,zf rfl,zf rfl,z3 true rfl,zz⟩ ?_
      exact hl7 _ (Option.some.inj h).symm
     ·obtain ⟨v3, hv3, h⟩ := bind_some h
      obtain ⟨v4, hv4, h⟩ := bind_some h
      refine zg hn (_::_::_::(9,vs s)::(10,vi (s.size : Int))::(11,vb (decide ((s.size : Int) < 2)))::(12,vb false)::(13,vs s)::(14,.v (.int .u8 v2))::(15,vb (v2 != 60))::(16,vb (v2 != 60))::(17,vb false)::(18,vs s)::(19,vs s)::(20,vi (s.size : Int))::(21,vi v3)::(22,.v (.int .u8 v4))::(23,vb (v4 != 62))::(24,vb (v4 != 62))::[]) [0,1,2] [0,1,18] (zq [0] 3 9::zq [3] 4 10::zq [4] 5 11::zq [5] 6 12::zq [6,0] 7 13::zq [6,7] 8 14::zq [6,8] 9 15::zq [6,9] 10 16::zq [10] 11 17::zq [11,0] 12 18::zq [11,0] 13 19::zq [11,13] 14 20::zq [11,14] 15 21::zq [11,12,15] 16 22::zq [11,16] 17 23::zq [11,17] 18 24::[]) [(_,_),(_,_),(_,_)] rfl ⟨z1 rfl,zp rfl (oN underlying9 rfl),z4 rfl rfl,z8 hg3_3 rfl,zr' rfl (oM rfl),zr' rfl (op_chr _ _ _ 0 _ underlying9 rfl rfl hv2),zr' rfl (oB rfl rfl),z3 false rfl,z8 hg3_8 rfl,zr' rfl (oM rfl),zr' rfl (oM rfl),zr' rfl (oN underlying9 rfl),zr' rfl (oB rfl (ibind (f := Value.int .i64) (Option.some.inj hv3))),zr' rfl (op_chr _ _ _ v3 _ underlying9 rfl rfl hv4),zr' rfl (oB rfl rfl),z3 false rfl,zz⟩ ?_
      exact hl7 _ (Option.some.inj h).symm
theorem ok_wherryref11_RightReport (site : ByteArray) (sender : T_Path) (rcpt : T_Path) (r : Bool) (h : Sh.wherryref11_RightReport site sender rcpt = some r) : FnOK Tryd.prog 10 [.v (.string site), .agg [.v (.bool sender.Null), .v (.string sender.Local), .v (.string sender.Domain)], .agg [.v (.bool rcpt.Null), .v (.string rcpt.Local), .v (.string rcpt.Domain)]] (.v (.bool r)) := by
  unfold Sh.wherryref11_RightReport at h
  refine fn_ok func10 rfl (zl rfl) rfl rfl fun g0 hn hio => ?_
  refine zgg hn [_,_,_,(4,.box 23 [vb sender.Null,vs sender.Local,vs sender.Domain]),(5,.box 23 [vb rcpt.Null,vs rcpt.Local,vs rcpt.Domain]),(6,vb false)] [0,1,2] [0,3,4] [zq [1] 3 4,zq [2] 4 5,zq [] 5 6] [(_,_),(_,_),(_,_)] rfl ⟨zp rfl (op_box _ _ _ _ rfl rfl rfl),zp rfl (op_box _ _ _ _ rfl rfl rfl),z2 rfl,zz⟩ ?_
  refine ht_seq ?_
  refine ht_joinS h (fun (s4 : Bool) => [(6, .v (.bool s4))]) ?_ ?_
  ·rintro s4 h
   refine pt_then (ht_ret ?_)
   obtain rfl := Option.some.inj h
   exact pt_ret hio rfl (.tmp _ _ .nil) rfl rfl
  ·intro u5 h hl6 hr7
   obtain ⟨v1, hv1, h⟩ := bind_some h
   refine cond_some h (fun hg1_2 h => ?_) (fun hg1_2 h => ?_)
   ·obtain ⟨v2, hv2, h⟩ := bind_some h
    refine cond_some h (fun hg1_6 h => ?_) (fun hg1_6 h => ?_)
    ·obtain ⟨v3, hv3, h⟩ := bind_some h
     refine cond_some h (fun hg1_10 h => ?_) (fun hg1_10 h => ?_)
     ·refine cond_some h (fun hg1_15 h => ?_) (fun hg1_15 h => ?_)
      ·refine zg hn (_::_::_::(7,vs site)::(8,vb v1)::(9,vb true)::(10,.agg [vb sender.Null,vs sender.Local,vs sender.Domain])::(11,vb v2)::(12,vb v2)::(13,vb true)::(14,.agg [vb rcpt.Null,vs rcpt.Local,vs rcpt.Domain])::(15,vb v3)::(16,vb v3)::(17,vb true)::(18,.ptr 4 0)::(19,vb sender.Null)::(20,vb (!sender.Null))::(21,vb (!sender.Null))::(22,vb true)::(23,.ptr 5 0)::(24,vb rcpt.Null)::(25,vb (!rcpt.Null))::(26,vb (!rcpt.Null))::(6,vb (!rcpt.Null))::[]) [0,1,2] [23] (zq [0] 3 7::zq [3] 4 8::zq [4] 5 9::zq [5,1] 6 10::zq [5,6] 7 11::zq [5,7] 8 12::zq [8] 9 13::zq [9,2] 10 14::zq [9,10] 11 15::zq [9,11] 12 16::zq [12] 13 17::zq [13,1] 14 18::zq [13,14,1] 15 19::zq [13,15] 16 20::zq [13,16] 17 21::zq [17] 18 22::zq [18,2] 19 23::zq [18,19,2] 20 24::zq [18,20] 21 25::zq [18,21] 22 26::zq [22] 23 6::[]) [(_,_)] rfl ⟨z1 rfl,zp rfl (op_call _ _ 27 _ _ rfl call27 rfl (ok_wherryref11_Domain site _ hv1) rfl rfl),z8 hg1_2 rfl,zr' rfl (op_loadA _ _ _ _ _ _ _ underlying23 rfl sz23 rfl rfl (zl rfl) rfl rfl),zr' rfl (op_call _ _ 28 _ _ rfl call28 rfl (ok_wherryref11_Path sender _ hv2) rfl rfl),z3 true rfl,z8 hg1_6 rfl,zr' rfl (op_loadA _ _ _ _ _ _ _ underlying23 rfl sz23 rfl rfl (zl rfl) rfl rfl),zr' rfl (op_call _ _ 28 _ _ rfl call28 rfl (ok_wherryref11_Path rcpt _ hv3) rfl rfl),z3 true rfl,z8 hg1_10 rfl,zr' rfl (oF underlying23 rfl sz4),zr' rfl (oL underlying4 rfl),zr' rfl (op_un _ _ _ _ rfl rfl),z3 true rfl,z8 hg1_15 rfl,zr' rfl (oF underlying23 rfl sz4),zr' rfl (oL underlying4 rfl),zr' rfl (op_un _ _ _ _ rfl rfl),z3 true rfl,z2 rfl,zz⟩ ?_
       exact hl6 _ (Option.some.inj h).symm
      ·refine zg hn (_::_::_::(7,vs site)::(8,vb v1)::(9,vb true)::(10,.agg [vb sender.Null,vs sender.Local,vs sender.Domain])::(11,vb v2)::(12,vb v2)::(13,vb true)::(14,.agg [vb rcpt.Null,vs rcpt.Local,vs rcpt.Domain])::(15,vb v3)::(16,vb v3)::(17,vb true)::(18,.ptr 4 0)::(19,vb sender.Null)::(20,vb (!sender.Null))::(21,vb (!sender.Null))::(22,vb false)::(23,.v undef)::(24,.v undef)::(25,.v undef)::(26,vb false)::(6,vb false)::[]) [0,1,2] [23] (zq [0] 3 7::zq [3] 4 8::zq [4] 5 9::zq [5,1] 6 10::zq [5,6] 7 11::zq [5,7] 8 12::zq [8] 9 13::zq [9,2] 10 14::zq [9,10] 11 15::zq [9,11] 12 16::zq [12] 13 17::zq [13,1] 14 18::zq [13,14,1] 15 19::zq [13,15] 16 20::zq [13,16] 17 21::zq [17] 18 22::zq [18] 19 23::zq [18] 20 24::zq [18] 21 25::zq [18] 22 26::zq [22] 23 6::[]) [(_,_)] rfl ⟨z1 rfl,zp rfl (op_call _ _ 27 _ _ rfl call27 rfl (ok_wherryref11_Domain site _ hv1) rfl rfl),z8 hg1_2 rfl,zr' rfl (op_loadA _ _ _ _ _ _ _ underlying23 rfl sz23 rfl rfl (zl rfl) rfl rfl),zr' rfl (op_call _ _ 28 _ _ rfl call28 rfl (ok_wherryref11_Path sender _ hv2) rfl rfl),z3 true rfl,z8 hg1_6 rfl,zr' rfl (op_loadA _ _ _ _ _ _ _ underlying23 rfl sz23 rfl rfl (zl rfl) rfl rfl),zr' rfl (op_call _ _ 28 _ _ rfl call28 rfl (ok_wherryref11_Path rcpt _ hv3) rfl rfl),z3 true rfl,z8 hg1_10 rfl,zr' rfl (oF underlying23 rfl sz4),zr' rfl (oL underlying4 rfl),zr' rfl (op_un _ _ _ _ rfl rfl),z3 true rfl,z8 hg1_15 rfl,zt rfl,zt rfl,zt rfl,z3 false rfl,z2 rfl,zz⟩ ?_
       exact hl6 _ (Option.some.inj h).symm
     ·refine zg hn (_::_::_::(7,vs site)::(8,vb v1)::(9,vb true)::(10,.agg [vb sender.Null,vs sender.Local,vs sender.Domain])::(11,vb v2)::(12,vb v2)::(13,vb true)::(14,.agg [vb rcpt.Null,vs rcpt.Local,vs rcpt.Domain])::(15,vb v3)::(16,vb v3)::(17,vb false)::(18,.v undef)::(19,.v undef)::(20,.v undef)::(21,vb false)::(22,vb false)::(23,.v undef)::(24,.v undef)::(25,.v undef)::(26,vb false)::(6,vb false)::[]) [0,1,2] [23] (zq [0] 3 7::zq [3] 4 8::zq [4] 5 9::zq [5,1] 6 10::zq [5,6] 7 11::zq [5,7] 8 12::zq [8] 9 13::zq [9,2] 10 14::zq [9,10] 11 15::zq [9,11] 12 16::zq [12] 13 17::zq [13] 14 18::zq [13] 15 19::zq [13] 16 20::zq [13] 17 21::zq [17] 18 22::zq [18] 19 23::zq [18] 20 24::zq [18] 21 25::zq [18] 22 26::zq [22] 23 6::[]) [(_,_)] rfl ⟨z1 rfl,zp rfl (op_call _ _ 27 _ _ rfl call27 rfl (ok_wherryref11_Domain site _ hv1) rfl rfl),z8 hg1_2 rfl,zr' rfl (op_loadA _ _ _ _ _ _ _ underlying23 rfl sz23 rfl rfl (zl rfl) rfl rfl),zr' rfl (op_call _ _ 28 _ _ rfl call28 rfl (ok_wherryref11_Path sender _ hv2) rfl rfl),z3 true rfl,z8 hg1_6 rfl,zr' rfl (op_loadA _ _ _ _ _ _ _ underlying23 rfl sz23 rfl rfl (zl rfl) rfl rfl),zr' rfl (op_call _ _ 28 _ _ rfl call28 rfl (ok_wherryref11_Path rcpt _ hv3) rfl rfl),z3 true rfl,z8 hg1_10 rfl,zt rfl,zt rfl,zt rfl,z3 false rfl,z1 rfl,zt rfl,zt rfl,zt rfl,z3 false rfl,z2 rfl,zz⟩ ?_
      exact hl6 _ (Option.some.inj h).symm
    ·refine zg hn (_::_::_::(7,vs site)::(8,vb v1)::(9,vb true)::(10,.agg [vb sender.Null,vs sender.Local,vs sender.Domain])::(11,vb v2)::(12,vb v2)::(13,vb false)::(14,.v undef)::(15,.v undef)::(16,vb false)::(17,vb false)::(18,.v undef)::(19,.v undef)::(20,.v undef)::(21,vb false)::(22,vb false)::(23,.v undef)::(24,.v undef)::(25,.v undef)::(26,vb false)::(6,vb false)::[]) [0,1,2] [23] (zq [0] 3 7::zq [3] 4 8::zq [4] 5 9::zq [5,1] 6 10::zq [5,6] 7 11::zq [5,7] 8 12::zq [8] 9 13::zq [9] 10 14::zq [9] 11 15::zq [9] 12 16::zq [12] 13 17::zq [13] 14 18::zq [13] 15 19::zq [13] 16 20::zq [13] 17 21::zq [17] 18 22::zq [18] 19 23::zq [18] 20 24::zq [18] 21 25::zq [18] 22 26::zq [22] 23 6::[]) [(_,_)] rfl ⟨z1 rfl,zp rfl (op_call _ _ 27 _ _ rfl call27 rfl (ok_wherryref11_Domain site _ hv1) rfl rfl),z8 hg1_2 rfl,zr' rfl (op_loadA _ _ _ _ _ _ _ underlying23 rfl sz23 rfl rfl (zl rfl) rfl rfl),zr' rfl (op_call _ _ 28 _ _ rfl call28 rfl (ok_wherryref11_Path sender _ hv2) rfl rfl),z3 true rfl,z8 hg1_6 rfl,zt rfl,zt rfl,z3 false rfl,z1 rfl,zt rfl,zt rfl,zt rfl,z3 false rfl,z1 rfl,zt rfl,zt rfl,zt rfl,z3 false rfl,z2 rfl,zz⟩ ?_
     exact hl6 _ (Option.some.inj h).symm
   ·refine zg hn (_::_::_::(7,vs site)::(8,vb v1)::(9,vb false)::(10,.v undef)::(11,.v undef)::(12,vb false)::(13,vb false)::(14,.v undef)::(15,.v undef)::(16,vb false)::(17,vb false)::(18,.v undef)::(19,.v undef)::(20,.v undef)::(21,vb false)::(22,vb false)::(23,.v undef)::(24,.v undef)::(25,.v undef)::(26,vb false)::(6,vb false)::[]) [0,1,2] [23] (zq [0] 3 7::zq [3] 4 8::zq [4] 5 9::zq [5] 6 10::zq [5] 7 11::zq [5] 8 12::zq [8] 9 13::zq [9] 10 14::zq [9] 11 15::zq [9] 12 16::zq [12] 13 17::zq [13] 14 18::zq [13] 15 19::zq [13] 16 20::zq [13] 17 21::zq [17] 18 22::zq [18] 19 23::zq [18] 20 24::zq [18] 21 25::zq [18] 22 26::zq [22] 23 6::[]) [(_,_)] rfl ⟨z1 rfl,zp rfl (op_call _ _ 27 _ _ rfl call27 rfl (ok_wherryref11_Domain site _ hv1) rfl rfl),z8 hg1_2 rfl,zt rfl,zt rfl,z3 false rfl,z1 rfl,zt rfl,zt rfl,z3 false rfl,z1 rfl,zt rfl,zt rfl,zt rfl,z3 false rfl,z1 rfl,zt rfl,zt rfl,zt rfl,z3 false rfl,z2 rfl,zz⟩ ?_
    exact hl6 _ (Option.some.inj h).symm
theorem ok_wherryref11_Text (p : T_Path) (r : ByteArray) (h : Sh.wherryref11_Text p = some r) : FnOK Tryd.prog 29 [.agg [.v (.bool p.Null), .v (.string p.Local), .v (.string p.Domain)]] (.v (.string r)) := by
  unfold Sh.wherryref11_Text at h
  refine fn_ok func29 rfl (zl rfl) rfl rfl fun g0 hn hio => ?_
  refine zgg hn [_,(1,.box 23 [vb p.Null,vs p.Local,vs p.Domain]),(2,vs z0)] [0] [1] [zq [0] 1 1,zq [] 2 2] [(_,_)] rfl ⟨zp rfl (op_box _ _ _ _ rfl rfl rfl),z2 rfl,zz⟩ ?_
  refine ht_seq ?_
  refine zgg hn [_,(3,.ptr 1 0),(4,vb p.Null)] [0] [0,2] [zq [0] 1 3,zq [1,0] 2 4] [(_,_),(_,_)] rfl ⟨zp rfl (oF underlying23 rfl sz4),zp rfl (oL underlying4 rfl),zz⟩ ?_
  refine ht_cond _ rfl (fun hb1 => ?_) (fun hb1 => ?_)
  ·have h := cond_t hb1 h
   refine zgg hn [_,_,(2,vs (⟨#[60,62]⟩ : ByteArray))] [0,1] [2] [zq [] 2 2] [(_,_)] rfl ⟨z2 rfl,zz⟩ ?_
   refine ht_ret ?_
   refine pt_r_then ?_
   obtain rfl := Option.some.inj h
   exact pt_ret hio rfl (.tmp _ _ .nil) rfl rfl
  ·have h := cond_f hb1 h
   refine ht_skip ?_
   refine pt_then (ht_seq ?_)
   obtain ⟨v2, hv2, h⟩ := bind_some h
   obtain ⟨v3, hv3, h⟩ := bind_some h
   obtain ⟨v4, hv4, h⟩ := bind_some h
   obtain ⟨v5, hv5, h⟩ := bind_some h
   refine zg hn [_,_,(5,.ptr 1 1),(6,vs p.Local),(7,vs v2),(8,vs v3),(9,.ptr 1 2),(10,vs p.Domain),(11,vs v4),(12,vs v5),(2,vs v5)] [0,1] [10] [zq [0] 2 5,zq [2,0] 3 6,zq [3] 4 7,zq [4] 5 8,zq [0] 6 9,zq [6,0] 7 10,zq [5,7] 8 11,zq [8] 9 12,zq [9] 10 2] [(_,_)] rfl ⟨zp rfl (oF underlying23 rfl sz9),zp rfl (oL underlying9 rfl),zp rfl (oB rfl (cat_ok hv2)),zp rfl (oB rfl (cat_ok hv3)),zp rfl (oF underlying23 rfl sz9),zp rfl (oL underlying9 rfl),zp rfl (oB rfl (cat_ok hv4)),zp rfl (oB rfl (cat_ok hv5)),z2 rfl,zz⟩ ?_
   refine pt_then (ht_ret ?_)
   obtain rfl := Option.some.inj h
   exact pt_ret hio rfl (.tmp _ _ .nil) rfl rfl
theorem ok_wherryref11_Report (site : ByteArray) (sender : T_Path) (rcpt : T_Path) (r : (List Int)) (h : Sh.wherryref11_Report site sender rcpt = some r) : FnOK Tryd.prog 12 [.v (.string site), .agg [.v (.bool sender.Null), .v (.string sender.Local), .v (.string sender.Domain)], .agg [.v (.bool rcpt.Null), .v (.string rcpt.Local), .v (.string rcpt.Domain)]] (.mkr 5 (List.map (Value.int .u8) r)) := by
  unfold Sh.wherryref11_Report at h
  refine fn_ok func12 rfl (zl rfl) rfl rfl fun g0 hn hio => ?_
  refine zgg hn [_,_,_,(4,.box 23 [vb sender.Null,vs sender.Local,vs sender.Domain]),(5,.box 23 [vb rcpt.Null,vs rcpt.Local,vs rcpt.Domain]),(6,.v (.slice none 0 0))] [0,1,2] [0,3,4] [zq [1] 3 4,zq [2] 4 5,zq [] 5 6] [(_,_),(_,_),(_,_)] rfl ⟨zp rfl (op_box _ _ _ _ rfl rfl rfl),zp rfl (op_box _ _ _ _ rfl rfl rfl),z2 rfl,zz⟩ ?_
  refine ht_seq ?_
  obtain ⟨v1, hv1, h⟩ := bind_some h
  obtain ⟨v2, hv2, h⟩ := bind_some h
  obtain ⟨v3, hv3, h⟩ := bind_some h
  obtain ⟨v4, hv4, h⟩ := bind_some h
  obtain ⟨v5, hv5, h⟩ := bind_some h
  obtain ⟨v6, hv6, h⟩ := bind_some h
  obtain ⟨v7, hv7, h⟩ := bind_some h
  obtain ⟨v8, hv8, h⟩ := bind_some h
  obtain ⟨v9, hv9, h⟩ := bind_some h
  obtain ⟨v10, hv10, h⟩ := bind_some h
  refine ht_anyR (by kernel_rfl) hn (El := (_ :: _ :: _ :: (10, .v (.string site)) :: (11, .v (.string v1)) :: (12, .v (.string v2)) :: (13, .agg [.v (.bool sender.Null), .v (.string sender.Local), .v (.string sender.Domain)]) :: (14, .v (.string v3)) :: (15, .v (.string v4)) :: (16, .agg [.v (.bool rcpt.Null), .v (.string rcpt.Local), .v (.string rcpt.Domain)]) :: (17, .v (.string v5)) :: (18, .v (.string v6)) :: (19, .v (.string v7)) :: (20, .v (.string site)) :: (21, .v (.string v8)) :: (22, .agg [.v (.bool rcpt.Null), .v (.string rcpt.Local), .v (.string rcpt.Domain)]) :: (23, .v (.string v9)) :: (24, .v (.string v10)) :: (25, .fl (.own 9) 1 (List.map Value.string ([v2, v4, (⟨#[83, 117, 98, 106, 101, 99, 116, 58, 32, 85, 110, 100, 101, 108, 105, 118, 101, 114, 101, 100, 32, 109, 97, 105, 108]⟩ : ByteArray), (⟨#[67, 111, 110, 116, 101, 110, 116, 45, 84, 121, 112, 101, 58, 32, 109, 117, 108, 116, 105, 112, 97, 114, 116, 47, 114, 101, 112, 111, 114, 116, 59, 32, 114, 101, 112, 111, 114, 116, 45, 116, 121, 112, 101, 61, 100, 101, 108, 105, 118, 101, 114, 121, 45, 115, 116, 97, 116, 117, 115, 59, 32, 98, 111, 117, 110, 100, 97, 114, 121, 61, 119]⟩ : ByteArray), (⟨#[]⟩ : ByteArray), (⟨#[45, 45, 119]⟩ : ByteArray), (⟨#[67, 111, 110, 116, 101, 110, 116, 45, 84, 121, 112, 101, 58, 32, 116, 101, 120, 116, 47, 112, 108, 97, 105, 110]⟩ : ByteArray), (⟨#[]⟩ : ByteArray), v7, (⟨#[45, 45, 119]⟩ : ByteArray), (⟨#[67, 111, 110, 116, 101, 110, 116, 45, 84, 121, 112, 101, 58, 32, 109, 101, 115, 115, 97, 103, 101, 47, 100, 101, 108, 105, 118, 101, 114, 121, 45, 115, 116, 97, 116, 117, 115]⟩ : ByteArray), (⟨#[]⟩ : ByteArray), v8, (⟨#[]⟩ : ByteArray), v10, (⟨#[65, 99, 116, 105, 111, 110, 58, 32, 102, 97, 105, 108, 101, 100]⟩ : ByteArray), (⟨#[83, 116, 97, 116, 117, 115, 58, 32, 52, 46, 52, 46, 55]⟩ : ByteArray), (⟨#[45, 45, 119, 45, 45]⟩ : ByteArray)]))) :: (7, .fl (.own 9) 1 (List.map Value.string ([v2, v4, (⟨#[83, 117, 98, 106, 101, 99, 116, 58, 32, 85, 110, 100, 101, 108, 105, 118, 101, 114, 101, 100, 32, 109, 97, 105, 108]⟩ : ByteArray), (⟨#[67, 111, 110, 116, 101, 110, 116, 45, 84, 121, 112, 101, 58, 32, 109, 117, 108, 116, 105, 112, 97, 114, 116, 47, 114, 101, 112, 111, 114, 116, 59, 32, 114, 101, 112, 111, 114, 116, 45, 116, 121, 112, 101, 61, 100, 101, 108, 105, 118, 101, 114, 121, 45, 115, 116, 97, 116, 117, 115, 59, 32, 98, 111, 117, 110, 100, 97, 114, 121, 61, 119]⟩ : ByteArray), (⟨#[]⟩ : ByteArray), (⟨#[45, 45, 119]⟩ : ByteArray), (⟨#[67, 111, 110, 116, 101, 110, 116, 45, 84, 121, 112, 101, 58, 32, 116, 101, 120, 116, 47, 112, 108, 97, 105, 110]⟩ : ByteArray), (⟨#[]⟩ : ByteArray), v7, (⟨#[45, 45, 119]⟩ : ByteArray), (⟨#[67, 111, 110, 116, 101, 110, 116, 45, 84, 121, 112, 101, 58, 32, 109, 101, 115, 115, 97, 103, 101, 47, 100, 101, 108, 105, 118, 101, 114, 121, 45, 115, 116, 97, 116, 117, 115]⟩ : ByteArray), (⟨#[]⟩ : ByteArray), v8, (⟨#[]⟩ : ByteArray), v10, (⟨#[65, 99, 116, 105, 111, 110, 58, 32, 102, 97, 105, 108, 101, 100]⟩ : ByteArray), (⟨#[83, 116, 97, 116, 117, 115, 58, 32, 52, 46, 52, 46, 55]⟩ : ByteArray), (⟨#[45, 45, 119, 45, 45]⟩ : ByteArray)]))) :: [])) (init := [0, 1, 2]) (fin := [19]) (sps := (zq [0] 3 10 :: zq [3] 4 11 :: zq [4] 5 12 :: zq [1] 6 13 :: zq [6] 7 14 :: zq [7] 8 15 :: zq [2] 9 16 :: zq [9] 10 17 :: zq [10] 11 18 :: zq [11] 12 19 :: zq [0] 13 20 :: zq [13] 14 21 :: zq [2] 15 22 :: zq [15] 16 23 :: zq [16] 17 24 :: zq [5,8,12,14,17] 18 25 :: ⟨[], [18], [19], [(.slot 7)]⟩ :: [])) (es' := [(7, .fl (.own 9) 1 (List.map Value.string ([v2, v4, (⟨#[83, 117, 98, 106, 101, 99, 116, 58, 32, 85, 110, 100, 101, 108, 105, 118, 101, 114, 101, 100, 32, 109, 97, 105, 108]⟩ : ByteArray), (⟨#[67, 111, 110, 116, 101, 110, 116, 45, 84, 121, 112, 101, 58, 32, 109, 117, 108, 116, 105, 112, 97, 114, 116, 47, 114, 101, 112, 111, 114, 116, 59, 32, 114, 101, 112, 111, 114, 116, 45, 116, 121, 112, 101, 61, 100, 101, 108, 105, 118, 101, 114, 121, 45, 115, 116, 97, 116, 117, 115, 59, 32, 98, 111, 117, 110, 100, 97, 114, 121, 61, 119]⟩ : ByteArray), (⟨#[]⟩ : ByteArray), (⟨#[45, 45, 119]⟩ : ByteArray), (⟨#[67, 111, 110, 116, 101, 110, 116, 45, 84, 121, 112, 101, 58, 32, 116, 101, 120, 116, 47, 112, 108, 97, 105, 110]⟩ : ByteArray), (⟨#[]⟩ : ByteArray), v7, (⟨#[45, 45, 119]⟩ : ByteArray), (⟨#[67, 111, 110, 116, 101, 110, 116, 45, 84, 121, 112, 101, 58, 32, 109, 101, 115, 115, 97, 103, 101, 47, 100, 101, 108, 105, 118, 101, 114, 121, 45, 115, 116, 97, 116, 117, 115]⟩ : ByteArray), (⟨#[]⟩ : ByteArray), v8, (⟨#[]⟩ : ByteArray), v10, (⟨#[65, 99, 116, 105, 111, 110, 58, 32, 102, 97, 105, 108, 101, 100]⟩ : ByteArray), (⟨#[83, 116, 97, 116, 117, 115, 58, 32, 52, 46, 52, 46, 55]⟩ : ByteArray), (⟨#[45, 45, 119, 45, 45]⟩ : ByteArray)])))]) (by kernel_rfl) rfl rfl ⟨z1 rfl,zp rfl (oB rfl (cat_ok hv1)),zp rfl (oB rfl (cat_ok hv2)),zp rfl (op_loadA _ _ _ _ _ _ _ underlying23 rfl sz23 rfl rfl (zl rfl) rfl rfl),zp rfl (op_call _ _ 29 _ _ rfl call29 rfl (ok_wherryref11_Text sender _ hv3) rfl rfl),zp rfl (oB rfl (cat_ok hv4)),zp rfl (op_loadA _ _ _ _ _ _ _ underlying23 rfl sz23 rfl rfl (zl rfl) rfl rfl),zp rfl (op_call _ _ 29 _ _ rfl call29 rfl (ok_wherryref11_Text rcpt _ hv5) rfl rfl),zp rfl (oB rfl (cat_ok hv6)),zp rfl (oB rfl (cat_ok hv7)),z1 rfl,zp rfl (oB rfl (cat_ok hv8)),zp rfl (op_loadA _ _ _ _ _ _ _ underlying23 rfl sz23 rfl rfl (zl rfl) rfl rfl),zp rfl (op_call _ _ 29 _ _ rfl call29 rfl (ok_wherryref11_Text rcpt _ hv9) rfl rfl),zp rfl (oB rfl (cat_ok hv10)),zp rfl (op_buildSlice _ _ 1 (.string ByteArray.empty) (List.map Value.string ([v2, v4, (⟨#[83, 117, 98, 106, 101, 99, 116, 58, 32, 85, 110, 100, 101, 108, 105, 118, 101, 114, 101, 100, 32, 109, 97, 105, 108]⟩ : ByteArray), (⟨#[67, 111, 110, 116, 101, 110, 116, 45, 84, 121, 112, 101, 58, 32, 109, 117, 108, 116, 105, 112, 97, 114, 116, 47, 114, 101, 112, 111, 114, 116, 59, 32, 114, 101, 112, 111, 114, 116, 45, 116, 121, 112, 101, 61, 100, 101, 108, 105, 118, 101, 114, 121, 45, 115, 116, 97, 116, 117, 115, 59, 32, 98, 111, 117, 110, 100, 97, 114, 121, 61, 119]⟩ : ByteArray), (⟨#[]⟩ : ByteArray), (⟨#[45, 45, 119]⟩ : ByteArray), (⟨#[67, 111, 110, 116, 101, 110, 116, 45, 84, 121, 112, 101, 58, 32, 116, 101, 120, 116, 47, 112, 108, 97, 105, 110]⟩ : ByteArray), (⟨#[]⟩ : ByteArray), v7, (⟨#[45, 45, 119]⟩ : ByteArray), (⟨#[67, 111, 110, 116, 101, 110, 116, 45, 84, 121, 112, 101, 58, 32, 109, 101, 115, 115, 97, 103, 101, 47, 100, 101, 108, 105, 118, 101, 114, 121, 45, 115, 116, 97, 116, 117, 115]⟩ : ByteArray), (⟨#[]⟩ : ByteArray), v8, (⟨#[]⟩ : ByteArray), v10, (⟨#[65, 99, 116, 105, 111, 110, 58, 32, 102, 97, 105, 108, 101, 100]⟩ : ByteArray), (⟨#[83, 116, 97, 116, 117, 115, 58, 32, 52, 46, 52, 46, 55]⟩ : ByteArray), (⟨#[45, 45, 119, 45, 45]⟩ : ByteArray)])) [(0, .string v2), (1, .string v4), (2, .string (⟨#[83, 117, 98, 106, 101, 99, 116, 58, 32, 85, 110, 100, 101, 108, 105, 118, 101, 114, 101, 100, 32, 109, 97, 105, 108]⟩ : ByteArray)), (3, .string (⟨#[67, 111, 110, 116, 101, 110, 116, 45, 84, 121, 112, 101, 58, 32, 109, 117, 108, 116, 105, 112, 97, 114, 116, 47, 114, 101, 112, 111, 114, 116, 59, 32, 114, 101, 112, 111, 114, 116, 45, 116, 121, 112, 101, 61, 100, 101, 108, 105, 118, 101, 114, 121, 45, 115, 116, 97, 116, 117, 115, 59, 32, 98, 111, 117, 110, 100, 97, 114, 121, 61, 119]⟩ : ByteArray)), (4, .string ByteArray.empty), (5, .string (⟨#[45, 45, 119]⟩ : ByteArray)), (6, .string (⟨#[67, 111, 110, 116, 101, 110, 116, 45, 84, 121, 112, 101, 58, 32, 116, 101, 120, 116, 47, 112, 108, 97, 105, 110]⟩ : ByteArray)), (7, .string ByteArray.empty), (8, .string v7), (9, .string (⟨#[45, 45, 119]⟩ : ByteArray)), (10, .string (⟨#[67, 111, 110, 116, 101, 110, 116, 45, 84, 121, 112, 101, 58, 32, 109, 101, 115, 115, 97, 103, 101, 47, 100, 101, 108, 105, 118, 101, 114, 121, 45, 115, 116, 97, 116, 117, 115]⟩ : ByteArray)), (11, .string ByteArray.empty), (12, .string v8), (13, .string ByteArray.empty), (14, .string v10), (15, .string (⟨#[65, 99, 116, 105, 111, 110, 58, 32, 102, 97, 105, 108, 101, 100]⟩ : ByteArray)), (16, .string (⟨#[83, 116, 97, 116, 117, 115, 58, 32, 52, 46, 52, 46, 55]⟩ : ByteArray)), (17, .string (⟨#[45, 45, 119, 45, 45]⟩ : ByteArray))] underlying51 sz9 zr9 (fun _ V w o a hv hes => by have e0 := rd_v hv hes (x := .tmp 12) rfl; have e1 := rd_v hv hes (x := .tmp 15) rfl; have e8 := rd_v hv hes (x := .tmp 19) rfl; have e12 := rd_v hv hes (x := .tmp 21) rfl; have e14 := rd_v hv hes (x := .tmp 24) rfl; simp only [List.map_toArray, List.map_cons, List.map_nil, e0, e1, e8, e12, e14]; try rfl) (litfill (by simp [Instr.fill, Value.cells]; rfl) (by simp [List.range, List.range.loop] <;> rfl)) (by simp [Value.oneCell']) rfl (by decide) (by decide) (by decide)),zp rfl (op_assign_take _ _ _ _ rfl),zz⟩ ?_
  refine pt_then ?_
  refine zgg hn [_,(8,vs z0)] [0] [0,1] [zq [] 1 8] [(_,_),(_,_)] rfl ⟨z2 rfl,zz⟩ ?_
  refine ht_seq ?_
  refine zgg hn [_,_,(9,vi 0)] [0,1] [0,1,2] [zq [] 2 9] [(_,_),(_,_),(_,_)] rfl ⟨z2 rfl,zz⟩ ?_
  refine ht_loopS h (fun ((s36, s37) : ByteArray × Int) => [(7, .fl (.own 9) 1 (List.map Value.string ([v2, v4, (⟨#[83, 117, 98, 106, 101, 99, 116, 58, 32, 85, 110, 100, 101, 108, 105, 118, 101, 114, 101, 100, 32, 109, 97, 105, 108]⟩ : ByteArray), (⟨#[67, 111, 110, 116, 101, 110, 116, 45, 84, 121, 112, 101, 58, 32, 109, 117, 108, 116, 105, 112, 97, 114, 116, 47, 114, 101, 112, 111, 114, 116, 59, 32, 114, 101, 112, 111, 114, 116, 45, 116, 121, 112, 101, 61, 100, 101, 108, 105, 118, 101, 114, 121, 45, 115, 116, 97, 116, 117, 115, 59, 32, 98, 111, 117, 110, 100, 97, 114, 121, 61, 119]⟩ : ByteArray), (⟨#[]⟩ : ByteArray), (⟨#[45, 45, 119]⟩ : ByteArray), (⟨#[67, 111, 110, 116, 101, 110, 116, 45, 84, 121, 112, 101, 58, 32, 116, 101, 120, 116, 47, 112, 108, 97, 105, 110]⟩ : ByteArray), (⟨#[]⟩ : ByteArray), v7, (⟨#[45, 45, 119]⟩ : ByteArray), (⟨#[67, 111, 110, 116, 101, 110, 116, 45, 84, 121, 112, 101, 58, 32, 109, 101, 115, 115, 97, 103, 101, 47, 100, 101, 108, 105, 118, 101, 114, 121, 45, 115, 116, 97, 116, 117, 115]⟩ : ByteArray), (⟨#[]⟩ : ByteArray), v8, (⟨#[]⟩ : ByteArray), v10, (⟨#[65, 99, 116, 105, 111, 110, 58, 32, 102, 97, 105, 108, 101, 100]⟩ : ByteArray), (⟨#[83, 116, 97, 116, 117, 115, 58, 32, 52, 46, 52, 46, 55]⟩ : ByteArray), (⟨#[45, 45, 119, 45, 45]⟩ : ByteArray)]))), (8, .v (.string s36)), (9, .v (.int .i64 s37))]) (fun (s39 : ByteArray) => [(8, .v (.string s39))]) ?_ ?_
  ·rintro s39 h
   refine pt_then (ht_seq ?_)
   obtain ⟨v31, hv31, h⟩ := bind_some h
   refine zg hn [_,(39,vs s39),(40,.mkr 5 (List.map (Value.int .u8) v31)),(6,.mkr 5 (List.map (Value.int .u8) v31))] [0] [3] [zq [0] 1 39,zq [1] 2 40,⟨[],[2],[3],[(.slot 6)]⟩] [(_,_)] rfl ⟨z1 rfl,zp rfl ((Option.some.inj hv31) ▸ op_str_mk _ _ _ s39 underlying9 underlying24 underlying5 rfl),zp rfl (op_assign_take _ _ _ _ rfl),zz⟩ ?_
   refine pt_then (ht_ret ?_)
   obtain rfl := Option.some.inj h
   exact pt_ret hio rfl (.tmp _ _ .nil) rfl rfl
  ·rintro u40 hl41 hr42 ⟨s36, s37⟩ rr45 h ho43
   refine ht_seq ?_
   refine zgg hn [_,_,_,(26,vi s37),(27,.same (.slot 7)),(28,vi (([v2,v4,(⟨#[83,117,98,106,101,99,116,58,32,85,110,100,101,108,105,118,101,114,101,100,32,109,97,105,108]⟩ : ByteArray),(⟨#[67,111,110,116,101,110,116,45,84,121,112,101,58,32,109,117,108,116,105,112,97,114,116,47,114,101,112,111,114,116,59,32,114,101,112,111,114,116,45,116,121,112,101,61,100,101,108,105,118,101,114,121,45,115,116,97,116,117,115,59,32,98,111,117,110,100,97,114,121,61,119]⟩ : ByteArray),z0,(⟨#[45,45,119]⟩ : ByteArray),(⟨#[67,111,110,116,101,110,116,45,84,121,112,101,58,32,116,101,120,116,47,112,108,97,105,110]⟩ : ByteArray),z0,v7,(⟨#[45,45,119]⟩ : ByteArray),(⟨#[67,111,110,116,101,110,116,45,84,121,112,101,58,32,109,101,115,115,97,103,101,47,100,101,108,105,118,101,114,121,45,115,116,97,116,117,115]⟩ : ByteArray),z0,v8,z0,v10,(⟨#[65,99,116,105,111,110,58,32,102,97,105,108,101,100]⟩ : ByteArray),(⟨#[83,116,97,116,117,115,58,32,52,46,52,46,55]⟩ : ByteArray),(⟨#[45,45,119,45,45]⟩ : ByteArray)]).length : Int)),(29,vb (decide (s37 < ((([v2,v4,(⟨#[83,117,98,106,101,99,116,58,32,85,110,100,101,108,105,118,101,114,101,100,32,109,97,105,108]⟩ : ByteArray),(⟨#[67,111,110,116,101,110,116,45,84,121,112,101,58,32,109,117,108,116,105,112,97,114,116,47,114,101,112,111,114,116,59,32,114,101,112,111,114,116,45,116,121,112,101,61,100,101,108,105,118,101,114,121,45,115,116,97,116,117,115,59,32,98,111,117,110,100,97,114,121,61,119]⟩ : ByteArray),z0,(⟨#[45,45,119]⟩ : ByteArray),(⟨#[67,111,110,116,101,110,116,45,84,121,112,101,58,32,116,101,120,116,47,112,108,97,105,110]⟩ : ByteArray),z0,v7,(⟨#[45,45,119]⟩ : ByteArray),(⟨#[67,111,110,116,101,110,116,45,84,121,112,101,58,32,109,101,115,115,97,103,101,47,100,101,108,105,118,101,114,121,45,115,116,97,116,117,115]⟩ : ByteArray),z0,v8,z0,v10,(⟨#[65,99,116,105,111,110,58,32,102,97,105,108,101,100]⟩ : ByteArray),(⟨#[83,116,97,116,117,115,58,32,52,46,52,46,55]⟩ : ByteArray),(⟨#[45,45,119,45,45]⟩ : ByteArray)]).length : Int)))))] [0,1,2] [0,1,2,6] [zq [2] 3 26,zq [0] 4 27,zq [4,0] 5 28,zq [3,5] 6 29] [(_,_),(_,_),(_,_),(_,_)] rfl ⟨z1 rfl,z1 rfl,zp rfl (op_len_fl _ _ _ underlying51 rfl (by decide) (map_len _)),z4 rfl rfl,zz⟩ ?_
   refine ht_cond _ rfl (fun hb46 => ?_) (fun hb46 => ?_)
   ·have h := cond_t hb46 h
    refine ht_skip ?_
    refine pt_then (ht_seq ?_)
    refine ht_block ?_
    obtain ⟨v12, hv12, h⟩ := bind_some h
    obtain ⟨v13, hv13, h⟩ := bind_some h
    obtain ⟨v14, hv14, h⟩ := bind_some h
    obtain ⟨v15, hv15, h⟩ := bind_some h
    refine zg hn [_,_,_,_,(32,vs s36),(33,.same (.slot 7)),(34,vi s37),(35,.eref (.slot 7) (v12 * 1)),(36,vs v13),(37,vs v14),(38,vs v15),(8,vs v15)] [0,1,2,3] [0,2,11] [zq [1] 4 32,zq [0] 5 33,zq [2] 6 34,zq [5,0,6] 7 35,zq [7,0] 8 36,zq [4,8] 9 37,zq [9] 10 38,⟨[10],[1],[11],[(.slot 8)]⟩] [(_,_),(_,_),(_,_)] rfl ⟨z1 rfl,z1 rfl,z1 rfl,zp rfl (op_ix _ _ _ _ _ _ _ _ underlying51 sz9 (by decide) rfl rfl rfl (ix_ok hv12).1 (map_lt (ix_ok hv12).2) rfl),zp rfl (op_load_e _ _ _ _ _ _ underlying9 rfl rfl rfl (map_get hv13)),zp rfl (oB rfl (cat_ok hv14)),zp rfl (oB rfl (cat_ok hv15)),zp rfl (LOp.drop [_] (op_assign _ _ _ _ rfl rfl)),zz⟩ ?_
    refine pt_inb ?_
    refine pt_then ?_
    obtain ⟨v16, hv16, h⟩ := bind_some h
    refine zg hn [_,_,_,(30,vi s37),(31,vi v16),(9,vi v16)] [0,1,2] [0,2,5] [zq [1] 3 30,zq [3] 4 31,⟨[4],[1],[5],[(.slot 9)]⟩] [(_,_),(_,_),(_,_)] rfl ⟨z1 rfl,zp rfl (oB rfl (ibind (f := Value.int .i64) (Option.some.inj hv16))),zp rfl (LOp.drop [_] (op_assign _ _ _ _ rfl rfl)),zz⟩ ?_
    exact pt_next _ (Option.some.inj h).symm rfl
   ·have h := cond_f hb46 h
    refine ht_exit ?_
    refine pt_x_then ?_
    refine pt_x_then ?_
    refine pt_x_in ?_
    refine pt_pick [1] (by kernel_rfl) (es' := [(_,_)]) rfl ?_
    exact hl41 _ (ho43 _ (Option.some.inj h).symm).symm
theorem ok_wherrykeep_Bytes (a : (List Int)) (b : (List Int)) (r : Bool) (h : Sh.wherrykeep_Bytes a b = some r) : FnOK Tryd.prog 11 [.fl .shr 1 (List.map (Value.int .u8) a), .fl .shr 1 (List.map (Value.int .u8) b)] (.v (.bool r)) := by
  unfold Sh.wherrykeep_Bytes at h
  refine fn_ok func11 rfl (zl rfl) rfl rfl fun g0 hn hio => ?_
  refine zgg hn [_,_,(4,vb false)] [0,1] [0,1] [zq [] 2 4] [(_,_),(_,_)] rfl ⟨z2 rfl,zz⟩ ?_
  refine ht_seq ?_
  refine zgg hn [_,_,(6,.fl .shr 1 (List.map (Value.int .u8) a)),(7,vi (a.length : Int)),(8,.fl .shr 1 (List.map (Value.int .u8) b)),(9,vi (b.length : Int)),(10,vb ((a.length : Int) != (b.length : Int)))] [0,1] [0,1,6] [zq [0] 2 6,zq [2] 3 7,zq [1] 4 8,zq [4] 5 9,zq [3,5] 6 10] [(_,_),(_,_),(_,_)] rfl ⟨z1 rfl,zp rfl (op_len_fl _ _ _ underlying24 rfl (by decide) (map_len _)),z1 rfl,zp rfl (op_len_fl _ _ _ underlying24 rfl (by decide) (map_len _)),z4 rfl rfl,zz⟩ ?_
  refine ht_cond _ rfl (fun hb1 => ?_) (fun hb1 => ?_)
  ·have h := cond_t hb1 h
   refine zgg hn [_,_,_,(4,vb false)] [0,1,2] [3] [zq [] 3 4] [(_,_)] rfl ⟨z2 rfl,zz⟩ ?_
   refine ht_ret ?_
   refine pt_r_then ?_
   obtain rfl := Option.some.inj h
   exact pt_ret hio rfl (.tmp _ _ .nil) rfl rfl
  ·have h := cond_f hb1 h
   refine ht_skip ?_
   refine pt_then (ht_seq ?_)
   refine zgg hn [_,_,_,(5,vi 0)] [0,1,2] [0,1,3] [zq [] 3 5] [(_,_),(_,_),(_,_)] rfl ⟨z2 rfl,zz⟩ ?_
   refine ht_loopS h (fun (s12 : Int) => [(0, .fl .shr 1 (List.map (Value.int .u8) a)), (1, .fl .shr 1 (List.map (Value.int .u8) b)), (5, .v (.int .i64 s12))]) (fun (() : Unit) => []) ?_ ?_
   ·rintro ⟨⟩ h
    refine pt_then ?_
    refine zgg hn [(4,vb true)] [] [0] [zq [] 0 4] [(_,_)] rfl ⟨z2 rfl,zz⟩ ?_
    refine ht_ret ?_
    obtain rfl := Option.some.inj h
    exact pt_ret hio rfl (.tmp _ _ .nil) rfl rfl
   ·rintro u15 hl16 hr17 s12 rr20 h ho18
    refine ht_seq ?_
    refine zgg hn [_,_,_,(11,vi s12),(12,.fl .shr 1 (List.map (Value.int .u8) a)),(13,vi (a.length : Int)),(14,vb (decide (s12 < (a.length : Int))))] [0,1,2] [0,1,2,6] [zq [2] 3 11,zq [0] 4 12,zq [4] 5 13,zq [3,5] 6 14] [(_,_),(_,_),(_,_),(_,_)] rfl ⟨z1 rfl,z1 rfl,zp rfl (op_len_fl _ _ _ underlying24 rfl (by decide) (map_len _)),z4 rfl rfl,zz⟩ ?_
    refine ht_cond _ rfl (fun hb21 => ?_) (fun hb21 => ?_)
    ·have h := cond_t hb21 h
     refine ht_skip ?_
     refine pt_then (ht_seq ?_)
     refine ht_block ?_
     refine ht_seq ?_
     obtain ⟨v3, hv3, h⟩ := bind_some h
     obtain ⟨v4, hv4, h⟩ := bind_some h
     obtain ⟨v5, hv5, h⟩ := bind_some h
     obtain ⟨v6, hv6, h⟩ := bind_some h
     refine ht_anyR (by kernel_rfl) hn (El := [_, _, _, _, (17, .fl .shr 1 (List.map (Value.int .u8) a)), (18, .v (.int .i64 s12)), (19, .eref (.slot 17) (v3 * 1)), (20, .v (.int .u8 v4)), (21, .fl .shr 1 (List.map (Value.int .u8) b)), (22, .v (.int .i64 s12)), (23, .eref (.slot 21) (v5 * 1)), (24, .v (.int .u8 v6)), (25, .v (.bool (v4 != v6)))]) (init := [0, 1, 2, 3]) (fin := [0, 1, 2, 12]) (sps := [zq [0] 4 17, zq [2] 5 18, zq [4,5] 6 19, zq [6,4] 7 20, zq [1] 8 21, zq [2] 9 22, zq [8,9] 10 23, zq [10,8] 11 24, zq [7,11] 12 25]) (es' := [(_,_),(_,_),(_,_),(25, .v (.bool (v4 != v6)))]) (by kernel_rfl) rfl rfl ⟨z1 rfl,z1 rfl,zp rfl (op_ix _ _ _ _ _ _ _ _ underlying24 sz5 (by decide) rfl rfl rfl (ix_ok hv3).1 (map_lt (ix_ok hv3).2) rfl),zp rfl (op_load_e _ _ _ _ _ _ underlying5 rfl rfl rfl (map_get hv4)),z1 rfl,z1 rfl,zp rfl (op_ix _ _ _ _ _ _ _ _ underlying24 sz5 (by decide) rfl rfl rfl (ix_ok hv5).1 (map_lt (ix_ok hv5).2) rfl),zp rfl (op_load_e _ _ _ _ _ _ underlying5 rfl rfl rfl (map_get hv6)),z4 rfl rfl,zz⟩ ?_
     refine pt_then ?_
     refine ht_cond _ rfl (fun hb22 => ?_) (fun hb22 => ?_)
     ·have h := cond_t hb22 h
      refine zgg hn [_,_,_,_,(4,vb false)] [0,1,2,3] [4] [zq [] 4 4] [(_,_)] rfl ⟨z2 rfl,zz⟩ ?_
      refine ht_ret ?_
      refine pt_r_in ?_
      refine pt_r_then ?_
      refine pt_r_then ?_
      refine pt_r_in ?_
      refine pt_r_then ?_
      have h := hr17 _ (ho18 _ (Option.some.inj h).symm).symm
      obtain rfl := Option.some.inj h
      exact pt_ret hio rfl (.tmp _ _ .nil) rfl rfl
     ·have h := cond_f hb22 h
      refine ht_skip ?_
      refine pt_inb ?_
      refine pt_then ?_
      obtain ⟨v8, hv8, h⟩ := bind_some h
      refine zg hn [_,_,_,_,(15,vi s12),(16,vi v8),(5,vi v8)] [0,1,2,3] [0,1,6] [zq [2] 4 15,zq [4] 5 16,⟨[5],[2],[6],[(.slot 5)]⟩] [(_,_),(_,_),(_,_)] rfl ⟨z1 rfl,zp rfl (oB rfl (ibind (f := Value.int .i64) (Option.some.inj hv8))),zp rfl (LOp.drop [_] (op_assign _ _ _ _ rfl rfl)),zz⟩ ?_
      exact pt_next _ (Option.some.inj h).symm rfl
    ·have h := cond_f hb21 h
     refine ht_exit ?_
     refine pt_x_then ?_
     refine pt_x_then ?_
     refine pt_x_in ?_
     refine pt_pick [] (by kernel_rfl) (es' := []) rfl ?_
     exact hl16 _ (ho18 _ (Option.some.inj h).symm).symm
theorem ok_wherryref11_ReadReport (b : (List Int)) (r : (ByteArray × T_Path × T_Path × Bool)) (h : Sh.wherryref11_ReadReport b = some r) : FnOK Tryd.prog 9 [.fl .shr 1 (List.map (Value.int .u8) b)] (.tup [.v (.string r.1), .agg [.v (.bool r.2.1.Null), .v (.string r.2.1.Local), .v (.string r.2.1.Domain)], .agg [.v (.bool r.2.2.1.Null), .v (.string r.2.2.1.Local), .v (.string r.2.2.1.Domain)], .v (.bool r.2.2.2)]) := by
  unfold Sh.wherryref11_ReadReport at h
  refine fn_ok func9 rfl (zl rfl) rfl rfl fun g0 hn hio => ?_
  refine zgg hn [_,(2,vs z0),(3,.box 23 [vb false,vs z0,vs z0]),(4,.box 23 [vb false,vs z0,vs z0]),(5,vb false)] [0] [0,2,3] [zq [] 1 2,zq [] 2 3,zq [] 3 4,zq [] 4 5] [(_,_),(_,_),(_,_)] rfl ⟨z2 rfl,zp rfl (op_alloc _ _ zr23),zp rfl (op_alloc _ _ zr23),z2 rfl,zz⟩ ?_
  refine ht_seq ?_
  obtain ⟨v1, hv1, h⟩ := bind_some h
  refine zg hn [_,_,_,(17,.fl .shr 1 (List.map (Value.int .u8) b)),(18,.fr (.own 24) false 1 (List.flatten (List.map Row_int_u8.ienc v1))),(6,.fr (.own 24) false 1 (List.flatten (List.map Row_int_u8.ienc v1)))] [0,1,2] [0,1,2,5] [zq [0] 3 17,zq [3] 4 18,⟨[],[4],[5],[(.slot 6)]⟩] [(_,_),(_,_),(_,_),(_,_)] rfl ⟨z1 rfl,zp rfl (op_call _ _ 17 _ _ rfl call17 rfl (ok_wherryref11_Lines b _ hv1) rfl rfl),zp rfl (op_assign_take _ _ _ _ rfl),zz⟩ ?_
  refine pt_then (ht_seq ?_)
  refine zgg hn [_,_,_,_,(19,.same (.slot 6)),(20,vi (v1.length : Int)),(21,vb ((v1.length : Int) != 18))] [0,1,2,3] [0,1,2,3,6] [zq [3] 4 19,zq [4,3] 5 20,zq [5] 6 21] [(_,_),(_,_),(_,_),(_,_),(_,_)] rfl ⟨z1 rfl,zp rfl (op_len_fr _ _ _ underlying44 rfl (by decide) (gflat_len Row_int_u8.ilen _)),z4 rfl rfl,zz⟩ ?_
  refine ht_cond _ rfl (fun hb2 => ?_) (fun hb2 => ?_)
  ·have h := cond_t hb2 h
   refine zgg hn [_,_,_,_,_,(22,.agg [vb false,vs z0,vs z0]),(23,.agg [vb false,vs z0,vs z0]),(2,vs z0),(3,.box 23 [vb false,vs z0,vs z0]),(4,.box 23 [vb false,vs z0,vs z0]),(5,vb false)] [0,1,2,3,4] [8,9,7,10] [zq [] 5 22,zq [] 6 23,zq [] 7 2,⟨[],[5,1],[8],[.cell 3 0,.cell 3 1,.cell 3 2]⟩,⟨[],[6,2],[9],[.cell 4 0,.cell 4 1,.cell 4 2]⟩,zq [] 10 5] [(_,_),(_,_),(_,_),(_,_)] rfl ⟨zp rfl (op_build _ _ _ _ [1, 1, 1] _ _ underlying23 zr23 (fs23 _ underlying23) Src.nil rfl rfl rfl),zp rfl (op_build _ _ _ _ [1, 1, 1] _ _ underlying23 zr23 (fs23 _ underlying23) Src.nil rfl rfl rfl),z2 rfl,zp rfl (op_store_self _ _ _ 22 3 3 sz23 rfl rfl rfl rfl rfl (.eq _ (.eq _ (.eq _ (.nil _)))) rfl),zp rfl (op_store_self _ _ _ 23 4 3 sz23 rfl rfl rfl rfl rfl (.eq _ (.eq _ (.eq _ (.nil _)))) rfl),z2 rfl,zz⟩ ?_
   refine ht_ret ?_
   refine pt_pick [2, 0, 1, 3] (by kernel_rfl) (es' := [(_,_),(_,_),(_,_),(_,_)]) rfl ?_
   refine pt_r_then ?_
   obtain rfl := Option.some.inj h
   exact pt_ret hio rfl (.tmp _ _ (.cellA _ _ _ _ underlying23 rfl sz23 (.cellA _ _ _ _ underlying23 rfl sz23 (.tmp _ _ .nil)))) rfl rfl
  ·have h := cond_f hb2 h
   refine ht_skip ?_
   refine pt_then (ht_seq ?_)
   obtain ⟨v3, hv3, h⟩ := bind_some h
   obtain ⟨v4, hv4, h⟩ := bind_some h
   obtain ⟨v5, hv5, h⟩ := bind_some h
   obtain ⟨v6, hv6, h⟩ := bind_some h
   refine zg hn (_::_::_::_::_::(25,.same (.slot 6))::(26,.eref (.slot 6) (v3 * 1))::(27,.fl .ro 1 (List.map (Value.int .u8) v4))::(28,vs v5)::(29,.tup [vs v6.1,vb v6.2])::(24,.tup [vs v6.1,vb v6.2])::(30,vs v6.1)::(31,vb v6.2)::(7,vs v6.1)::(8,vb v6.2)::[]) [0,1,2,3,4] [0,1,2,3,13,14] [zq [3] 5 25,zq [5,3] 6 26,zq [6,3] 7 27,zq [7] 8 28,zq [8] 9 29,⟨[],[9],[10],[(.slot 24)]⟩,zq [10] 11 30,zq [10] 12 31,zq [11] 13 7,zq [12] 14 8] [(_,_),(_,_),(_,_),(_,_),(_,_),(_,_)] rfl ⟨z1 rfl,zp rfl (op_ix_fr _ _ _ _ _ _ _ _ underlying44 sz24 (by decide) rfl rfl rfl (ix_ok hv3).1 (gflat_lt Row_int_u8.ilen (ix_ok hv3).2) rfl),zp rfl (op_load_fr _ _ _ _ _ _ _ underlying24 rfl rfl rfl (gflat_cell0 Row_int_u8.ilen hv4 rfl) (.fl _ _ rfl)),zp rfl ((Option.some.inj hv5) ▸ op_bytes_str _ _ _ v4 underlying24 underlying9 underlying5 rfl),zp rfl (op_call _ _ 25 _ _ rfl call25 rfl (ok_wherryref11_begins v5 (⟨#[114, 101, 112, 111, 114, 116, 105, 110, 103, 45, 109, 116, 97, 58, 32, 100, 110, 115, 59, 32]⟩ : ByteArray) _ hv6) rfl rfl),zp rfl (op_move_take _ _ _ _ rfl),zp rfl (oE rfl),zp rfl (oE rfl),z2 rfl,z2 rfl,zz⟩ ?_
   refine pt_then (ht_seq ?_)
   obtain ⟨v7, hv7, h⟩ := bind_some h
   obtain ⟨v8, hv8, h⟩ := bind_some h
   obtain ⟨v9, hv9, h⟩ := bind_some h
   obtain ⟨v10, hv10, h⟩ := bind_some h
   refine zg hn (_::_::_::_::_::_::(33,.same (.slot 6))::(34,.eref (.slot 6) (v7 * 1))::(35,.fl .ro 1 (List.map (Value.int .u8) v8))::(36,vs v9)::(37,.tup [vs v10.1,vb v10.2])::(32,.tup [vs v10.1,vb v10.2])::(38,vs v10.1)::(39,vb v10.2)::(9,vs v10.1)::(10,vb v10.2)::[]) [0,1,2,3,4,5] [0,1,2,3,4,5,14,15] [zq [3] 6 33,zq [6,3] 7 34,zq [7,3] 8 35,zq [8] 9 36,zq [9] 10 37,⟨[],[10],[11],[(.slot 32)]⟩,zq [11] 12 38,zq [11] 13 39,zq [12] 14 9,zq [13] 15 10] [(_,_),(_,_),(_,_),(_,_),(_,_),(_,_),(_,_),(_,_)] rfl ⟨z1 rfl,zp rfl (op_ix_fr _ _ _ _ _ _ _ _ underlying44 sz24 (by decide) rfl rfl rfl (ix_ok hv7).1 (gflat_lt Row_int_u8.ilen (ix_ok hv7).2) rfl),zp rfl (op_load_fr _ _ _ _ _ _ _ underlying24 rfl rfl rfl (gflat_cell0 Row_int_u8.ilen hv8 rfl) (.fl _ _ rfl)),zp rfl ((Option.some.inj hv9) ▸ op_bytes_str _ _ _ v8 underlying24 underlying9 underlying5 rfl),zp rfl (op_call _ _ 25 _ _ rfl call25 rfl (ok_wherryref11_begins v9 (⟨#[116, 111, 58, 32]⟩ : ByteArray) _ hv10) rfl rfl),zp rfl (op_move_take _ _ _ _ rfl),zp rfl (oE rfl),zp rfl (oE rfl),z2 rfl,z2 rfl,zz⟩ ?_
   refine pt_then (ht_seq ?_)
   obtain ⟨v11, hv11, h⟩ := bind_some h
   obtain ⟨v12, hv12, h⟩ := bind_some h
   obtain ⟨v13, hv13, h⟩ := bind_some h
   obtain ⟨v14, hv14, h⟩ := bind_some h
   refine zg hn (_::_::_::_::_::_::_::_::(41,.fr (.own 24) false 1 (List.flatten (List.map Row_int_u8.ienc v1)))::(42,.eref (.slot 41) (v11 * 1))::(43,.fl .ro 1 (List.map (Value.int .u8) v12))::(44,vs v13)::(45,.tup [vs v14.1,vb v14.2])::(40,.tup [vs v14.1,vb v14.2])::(46,vs v14.1)::(47,vb v14.2)::(11,vs v14.1)::(12,vb v14.2)::[]) [0,1,2,3,4,5,6,7] [0,1,2,4,5,6,7,16,17] [⟨[],[3],[8],[(.slot 41)]⟩,zq [8] 9 42,zq [9,8] 10 43,zq [10] 11 44,zq [11] 12 45,⟨[],[12],[13],[(.slot 40)]⟩,zq [13] 14 46,zq [13] 15 47,zq [14] 16 11,zq [15] 17 12] [(_,_),(_,_),(_,_),(_,_),(_,_),(_,_),(_,_),(_,_),(_,_)] rfl ⟨zp rfl (op_move_take _ _ _ _ rfl),zp rfl (op_ix_fr _ _ _ _ _ _ _ _ underlying44 sz24 (by decide) rfl rfl rfl (ix_ok hv11).1 (gflat_lt Row_int_u8.ilen (ix_ok hv11).2) rfl),zp rfl (op_load_fr _ _ _ _ _ _ _ underlying24 rfl rfl rfl (gflat_cell0 Row_int_u8.ilen hv12 rfl) (.fl _ _ rfl)),zp rfl ((Option.some.inj hv13) ▸ op_bytes_str _ _ _ v12 underlying24 underlying9 underlying5 rfl),zp rfl (op_call _ _ 25 _ _ rfl call25 rfl (ok_wherryref11_begins v13 (⟨#[102, 105, 110, 97, 108, 45, 114, 101, 99, 105, 112, 105, 101, 110, 116, 58, 32, 114, 102, 99, 56, 50, 50, 59, 32]⟩ : ByteArray) _ hv14) rfl rfl),zp rfl (op_move_take _ _ _ _ rfl),zp rfl (oE rfl),zp rfl (oE rfl),z2 rfl,z2 rfl,zz⟩ ?_
   refine pt_then (ht_seq ?_)
   obtain ⟨v15, hv15, h⟩ := bind_some h
   refine zg hn (_::_::_::_::_::_::_::_::_::(49,vs v10.1)::(50,.tup [.agg [vb v15.1.Null,vs v15.1.Local,vs v15.1.Domain],vb v15.2])::(48,.tup [.agg [vb v15.1.Null,vs v15.1.Local,vs v15.1.Domain],vb v15.2])::(51,.agg [vb v15.1.Null,vs v15.1.Local,vs v15.1.Domain])::(52,vb v15.2)::(13,.box 23 [vb false,vs z0,vs z0])::(13,.box 23 [vb v15.1.Null,vs v15.1.Local,vs v15.1.Domain])::(14,vb v15.2)::[]) [0,1,2,3,4,5,6,7,8] [0,1,2,3,4,6,7,8,15,16] [zq [5] 9 49,zq [9] 10 50,⟨[],[10],[11],[(.slot 48)]⟩,zq [11] 12 51,zq [11] 13 52,zq [] 14 13,⟨[12],[14],[15],[.cell 13 0,.cell 13 1,.cell 13 2]⟩,zq [13] 16 14] [(_,_),(_,_),(_,_),(_,_),(_,_),(_,_),(_,_),(_,_),(_,_),(_,_)] rfl ⟨z1 rfl,zp rfl (op_call _ _ 26 _ _ rfl call26 rfl (ok_wherryref11_Parse v10.1 _ hv15) rfl rfl),zp rfl (op_move_take _ _ _ _ rfl),zp rfl (op_extract_no _ _ _ _ _ _ rfl rfl (zl rfl) rfl rfl),zp rfl (oE rfl),zp rfl (op_alloc _ _ zr23),zp rfl (oS sz23 rfl),z2 rfl,zz⟩ ?_
   refine pt_then (ht_seq ?_)
   obtain ⟨v16, hv16, h⟩ := bind_some h
   refine zg hn (_::_::_::_::_::_::_::_::_::_::(54,vs v14.1)::(55,.tup [.agg [vb v16.1.Null,vs v16.1.Local,vs v16.1.Domain],vb v16.2])::(53,.tup [.agg [vb v16.1.Null,vs v16.1.Local,vs v16.1.Domain],vb v16.2])::(56,.agg [vb v16.1.Null,vs v16.1.Local,vs v16.1.Domain])::(57,vb v16.2)::(15,.box 23 [vb false,vs z0,vs z0])::(15,.box 23 [vb v16.1.Null,vs v16.1.Local,vs v16.1.Domain])::(16,vb v16.2)::[]) [0,1,2,3,4,5,6,7,8,9] [0,1,2,3,4,5,7,8,9,16,17] [zq [6] 10 54,zq [10] 11 55,⟨[],[11],[12],[(.slot 53)]⟩,zq [12] 13 56,zq [12] 14 57,zq [] 15 15,⟨[13],[15],[16],[.cell 15 0,.cell 15 1,.cell 15 2]⟩,zq [14] 17 16] [(_,_),(_,_),(_,_),(_,_),(_,_),(_,_),(_,_),(_,_),(_,_),(_,_),(_,_)] rfl ⟨z1 rfl,zp rfl (op_call _ _ 26 _ _ rfl call26 rfl (ok_wherryref11_Parse v14.1 _ hv16) rfl rfl),zp rfl (op_move_take _ _ _ _ rfl),zp rfl (op_extract_no _ _ _ _ _ _ rfl rfl (zl rfl) rfl rfl),zp rfl (oE rfl),zp rfl (op_alloc _ _ zr23),zp rfl (oS sz23 rfl),z2 rfl,zz⟩ ?_
   refine pt_then (ht_seq ?_)
   refine ht_seq ?_
   refine ht_joinS h (fun (s20 : Bool) => [(3, .box 23 [.v (.bool false), .v (.string (⟨#[]⟩ : ByteArray)), .v (.string (⟨#[]⟩ : ByteArray))]), (4, .box 23 [.v (.bool false), .v (.string (⟨#[]⟩ : ByteArray)), .v (.string (⟨#[]⟩ : ByteArray))]), (7, .v (.string v6.1)), (13, .box 23 [.v (.bool v15.1.Null), .v (.string v15.1.Local), .v (.string v15.1.Domain)]), (15, .box 23 [.v (.bool v16.1.Null), .v (.string v16.1.Local), .v (.string v16.1.Domain)]), (91, .v (.bool s20))]) ?_ ?_
   ·rintro s20 h
    refine pt_then ?_
    refine ht_cond _ rfl (fun hb24 => ?_) (fun hb24 => ?_)
    ·have h := cond_t hb24 h
     refine zgg hn [_,_,_,_,_,_,(92,.agg [vb false,vs z0,vs z0]),(93,.agg [vb false,vs z0,vs z0]),(2,vs z0),(3,.box 23 [vb false,vs z0,vs z0]),(4,.box 23 [vb false,vs z0,vs z0]),(5,vb false)] [0,1,2,3,4,5] [9,10,8,11] [zq [] 6 92,zq [] 7 93,zq [] 8 2,⟨[],[6,0],[9],[.cell 3 0,.cell 3 1,.cell 3 2]⟩,⟨[],[7,1],[10],[.cell 4 0,.cell 4 1,.cell 4 2]⟩,zq [] 11 5] [(_,_),(_,_),(_,_),(_,_)] rfl ⟨zp rfl (op_build _ _ _ _ [1, 1, 1] _ _ underlying23 zr23 (fs23 _ underlying23) Src.nil rfl rfl rfl),zp rfl (op_build _ _ _ _ [1, 1, 1] _ _ underlying23 zr23 (fs23 _ underlying23) Src.nil rfl rfl rfl),z2 rfl,zp rfl (op_store_self _ _ _ 92 3 3 sz23 rfl rfl rfl rfl rfl (.eq _ (.eq _ (.eq _ (.nil _)))) rfl),zp rfl (op_store_self _ _ _ 93 4 3 sz23 rfl rfl rfl rfl rfl (.eq _ (.eq _ (.eq _ (.nil _)))) rfl),z2 rfl,zz⟩ ?_
     refine ht_ret ?_
     refine pt_pick [2, 0, 1, 3] (by kernel_rfl) (es' := [(_,_),(_,_),(_,_),(_,_)]) rfl ?_
     refine pt_r_then ?_
     obtain rfl := Option.some.inj h
     exact pt_ret hio rfl (.tmp _ _ (.cellA _ _ _ _ underlying23 rfl sz23 (.cellA _ _ _ _ underlying23 rfl sz23 (.tmp _ _ .nil)))) rfl rfl
    ·have h := cond_f hb24 h
     refine ht_skip ?_
     refine pt_then (ht_seq ?_)
     refine ht_anyR (by kernel_rfl) hn (El := [_, _, _, _, _, _, (94, .v (.string v6.1)), (95, .agg [.v (.bool v15.1.Null), .v (.string v15.1.Local), .v (.string v15.1.Domain)]), (96, .agg [.v (.bool v16.1.Null), .v (.string v16.1.Local), .v (.string v16.1.Domain)]), (2, .v (.string v6.1)), (3, .box 23 [.v (.bool v15.1.Null), .v (.string v15.1.Local), .v (.string v15.1.Domain)]), (4, .box 23 [.v (.bool v16.1.Null), .v (.string v16.1.Local), .v (.string v16.1.Domain)]), (5, .v (.bool true))]) (init := [0, 1, 2, 3, 4, 5]) (fin := [10, 11, 9, 12]) (sps := [zq [2] 6 94, zq [3] 7 95, zq [4] 8 96, zq [6] 9 2, ⟨[7], [0], [10], [.cell 3 0, .cell 3 1, .cell 3 2]⟩, ⟨[8], [1], [11], [.cell 4 0, .cell 4 1, .cell 4 2]⟩, zq [] 12 5]) (es' := [(3, .box 23 [.v (.bool v15.1.Null), .v (.string v15.1.Local), .v (.string v15.1.Domain)]), (4, .box 23 [.v (.bool v16.1.Null), .v (.string v16.1.Local), .v (.string v16.1.Domain)]), (2, .v (.string v6.1)), (5, .v (.bool true))]) (by kernel_rfl) rfl rfl ⟨z1 rfl,zp rfl (op_loadA _ _ _ _ _ _ _ underlying23 rfl sz23 rfl rfl (zl rfl) rfl rfl),zp rfl (op_loadA _ _ _ _ _ _ _ underlying23 rfl sz23 rfl rfl (zl rfl) rfl rfl),z2 rfl,zp rfl (oS sz23 rfl),zp rfl (oS sz23 rfl),z2 rfl,zz⟩ ?_
     refine pt_then (ht_ret ?_)
     refine pt_pick [2, 0, 1, 3] (by kernel_rfl) (es' := [(_,_),(_,_),(_,_),(_,_)]) rfl ?_
     obtain rfl := Option.some.inj h
     exact pt_ret hio rfl (.tmp _ _ (.cellA _ _ _ _ underlying23 rfl sz23 (.cellA _ _ _ _ underlying23 rfl sz23 (.tmp _ _ .nil)))) rfl rfl
   ·intro u21 h hl22 hr23
    refine cond_some h (fun hg9_2 h => ?_) (fun hg9_2 h => ?_)
    ·refine zg hn (_::_::_::_::_::_::_::_::_::_::_::(58,vb v6.2)::(59,vb (!v6.2))::(60,vb true)::(61,.v undef)::(62,.v undef)::(63,vb true)::(64,vb true)::(65,.v undef)::(66,.v undef)::(67,vb true)::(68,vb true)::(69,.v undef)::(70,.v undef)::(71,vb true)::(72,vb true)::(73,.v undef)::(74,.v undef)::(75,vb true)::(76,vb true)::(77,.v undef)::(78,.v undef)::(79,.v undef)::(80,.v undef)::(81,.v undef)::(82,vb true)::(83,vb true)::(84,.v undef)::(85,.v undef)::(86,.v undef)::(87,.v undef)::(88,.v undef)::(89,.v undef)::(90,.v undef)::(91,vb true)::[]) [0,1,2,3,4,5,6,7,8,9,10] [1,2,3,7,9,44] (zq [4] 11 58::zq [11] 12 59::zq [12] 13 60::zq [13] 14 61::zq [13] 15 62::zq [13] 16 63::zq [16] 17 64::zq [17] 18 65::zq [17] 19 66::zq [17] 20 67::zq [20] 21 68::zq [21] 22 69::zq [21] 23 70::zq [21] 24 71::zq [24] 25 72::zq [25] 26 73::zq [25] 27 74::zq [25] 28 75::zq [28] 29 76::zq [29] 30 77::zq [29] 31 78::zq [29] 32 79::zq [29] 33 80::zq [29] 34 81::zq [29] 35 82::zq [35] 36 83::zq [36] 37 84::zq [36] 38 85::zq [36] 39 86::zq [36] 40 87::zq [36] 41 88::zq [36] 42 89::zq [36] 43 90::zq [36] 44 91::[]) [(_,_),(_,_),(_,_),(_,_),(_,_),(_,_)] rfl ⟨z1 rfl,zp rfl (op_un _ _ _ _ rfl rfl),z8 hg9_2 rfl,zf rfl,zf rfl,z3 true rfl,z1 rfl,zf rfl,zf rfl,z3 true rfl,z1 rfl,zf rfl,zf rfl,z3 true rfl,z1 rfl,zf rfl,zf rfl,z3 true rfl,z1 rfl,zf rfl,zf rfl,zf rfl,zf rfl,zf rfl,z3 true rfl,z1 rfl,zf rfl,zf rfl,zf rfl,zf rfl,zf rfl,zf rfl,zf rfl,z3 true rfl,zz⟩ ?_
     exact hl22 _ (Option.some.inj h).symm
    ·refine cond_some h (fun hg9_6 h => ?_) (fun hg9_6 h => ?_)
     ·refine zg hn (_::_::_::_::_::_::_::_::_::_::_::(58,vb v6.2)::(59,vb (!v6.2))::(60,vb false)::(61,vb v10.2)::(62,vb (!v10.2))::(63,vb (!v10.2))::(64,vb true)::(65,.v undef)::(66,.v undef)::(67,vb true)::(68,vb true)::(69,.v undef)::(70,.v undef)::(71,vb true)::(72,vb true)::(73,.v undef)::(74,.v undef)::(75,vb true)::(76,vb true)::(77,.v undef)::(78,.v undef)::(79,.v undef)::(80,.v undef)::(81,.v undef)::(82,vb true)::(83,vb true)::(84,.v undef)::(85,.v undef)::(86,.v undef)::(87,.v undef)::(88,.v undef)::(89,.v undef)::(90,.v undef)::(91,vb true)::[]) [0,1,2,3,4,5,6,7,8,9,10] [1,2,3,7,9,44] (zq [4] 11 58::zq [11] 12 59::zq [12] 13 60::zq [13,5] 14 61::zq [13,14] 15 62::zq [13,15] 16 63::zq [16] 17 64::zq [17] 18 65::zq [17] 19 66::zq [17] 20 67::zq [20] 21 68::zq [21] 22 69::zq [21] 23 70::zq [21] 24 71::zq [24] 25 72::zq [25] 26 73::zq [25] 27 74::zq [25] 28 75::zq [28] 29 76::zq [29] 30 77::zq [29] 31 78::zq [29] 32 79::zq [29] 33 80::zq [29] 34 81::zq [29] 35 82::zq [35] 36 83::zq [36] 37 84::zq [36] 38 85::zq [36] 39 86::zq [36] 40 87::zq [36] 41 88::zq [36] 42 89::zq [36] 43 90::zq [36] 44 91::[]) [(_,_),(_,_),(_,_),(_,_),(_,_),(_,_)] rfl ⟨z1 rfl,zp rfl (op_un _ _ _ _ rfl rfl),z8 hg9_2 rfl,zr' rfl (oM rfl),zr' rfl (op_un _ _ _ _ rfl rfl),z3 false rfl,z8 hg9_6 rfl,zf rfl,zf rfl,z3 true rfl,z1 rfl,zf rfl,zf rfl,z3 true rfl,z1 rfl,zf rfl,zf rfl,z3 true rfl,z1 rfl,zf rfl,zf rfl,zf rfl,zf rfl,zf rfl,z3 true rfl,z1 rfl,zf rfl,zf rfl,zf rfl,zf rfl,zf rfl,zf rfl,zf rfl,z3 true rfl,zz⟩ ?_
      exact hl22 _ (Option.some.inj h).symm
     ·refine cond_some h (fun hg9_10 h => ?_) (fun hg9_10 h => ?_)
      ·refine zg hn (_::_::_::_::_::_::_::_::_::_::_::(58,vb v6.2)::(59,vb (!v6.2))::(60,vb false)::(61,vb v10.2)::(62,vb (!v10.2))::(63,vb (!v10.2))::(64,vb false)::(65,vb v14.2)::(66,vb (!v14.2))::(67,vb (!v14.2))::(68,vb true)::(69,.v undef)::(70,.v undef)::(71,vb true)::(72,vb true)::(73,.v undef)::(74,.v undef)::(75,vb true)::(76,vb true)::(77,.v undef)::(78,.v undef)::(79,.v undef)::(80,.v undef)::(81,.v undef)::(82,vb true)::(83,vb true)::(84,.v undef)::(85,.v undef)::(86,.v undef)::(87,.v undef)::(88,.v undef)::(89,.v undef)::(90,.v undef)::(91,vb true)::[]) [0,1,2,3,4,5,6,7,8,9,10] [1,2,3,7,9,44] (zq [4] 11 58::zq [11] 12 59::zq [12] 13 60::zq [13,5] 14 61::zq [13,14] 15 62::zq [13,15] 16 63::zq [16] 17 64::zq [17,6] 18 65::zq [17,18] 19 66::zq [17,19] 20 67::zq [20] 21 68::zq [21] 22 69::zq [21] 23 70::zq [21] 24 71::zq [24] 25 72::zq [25] 26 73::zq [25] 27 74::zq [25] 28 75::zq [28] 29 76::zq [29] 30 77::zq [29] 31 78::zq [29] 32 79::zq [29] 33 80::zq [29] 34 81::zq [29] 35 82::zq [35] 36 83::zq [36] 37 84::zq [36] 38 85::zq [36] 39 86::zq [36] 40 87::zq [36] 41 88::zq [36] 42 89::zq [36] 43 90::zq [36] 44 91::[]) [(_,_),(_,_),(_,_),(_,_),(_,_),(_,_)] rfl ⟨z1 rfl,zp rfl (op_un _ _ _ _ rfl rfl),z8 hg9_2 rfl,zr' rfl (oM rfl),zr' rfl (op_un _ _ _ _ rfl rfl),z3 false rfl,z8 hg9_6 rfl,zr' rfl (oM rfl),zr' rfl (op_un _ _ _ _ rfl rfl),z3 false rfl,z8 hg9_10 rfl,zf rfl,zf rfl,z3 true rfl,z1 rfl,zf rfl,zf rfl,z3 true rfl,z1 rfl,zf rfl,zf rfl,zf rfl,zf rfl,zf rfl,z3 true rfl,z1 rfl,zf rfl,zf rfl,zf rfl,zf rfl,zf rfl,zf rfl,zf rfl,z3 true rfl,zz⟩ ?_
       exact hl22 _ (Option.some.inj h).symm
      ·refine cond_some h (fun hg9_14 h => ?_) (fun hg9_14 h => ?_)
       ·refine zg hn (_::_::_::_::_::_::_::_::_::_::_::(58,vb v6.2)::(59,vb (!v6.2))::(60,vb false)::(61,vb v10.2)::(62,vb (!v10.2))::(63,vb (!v10.2))::(64,vb false)::(65,vb v14.2)::(66,vb (!v14.2))::(67,vb (!v14.2))::(68,vb false)::(69,vb v15.2)::(70,vb (!v15.2))::(71,vb (!v15.2))::(72,vb true)::(73,.v undef)::(74,.v undef)::(75,vb true)::(76,vb true)::(77,.v undef)::(78,.v undef)::(79,.v undef)::(80,.v undef)::(81,.v undef)::(82,vb true)::(83,vb true)::(84,.v undef)::(85,.v undef)::(86,.v undef)::(87,.v undef)::(88,.v undef)::(89,.v undef)::(90,.v undef)::(91,vb true)::[]) [0,1,2,3,4,5,6,7,8,9,10] [1,2,3,7,9,44] (zq [4] 11 58::zq [11] 12 59::zq [12] 13 60::zq [13,5] 14 61::zq [13,14] 15 62::zq [13,15] 16 63::zq [16] 17 64::zq [17,6] 18 65::zq [17,18] 19 66::zq [17,19] 20 67::zq [20] 21 68::zq [21,8] 22 69::zq [21,22] 23 70::zq [21,23] 24 71::zq [24] 25 72::zq [25] 26 73::zq [25] 27 74::zq [25] 28 75::zq [28] 29 76::zq [29] 30 77::zq [29] 31 78::zq [29] 32 79::zq [29] 33 80::zq [29] 34 81::zq [29] 35 82::zq [35] 36 83::zq [36] 37 84::zq [36] 38 85::zq [36] 39 86::zq [36] 40 87::zq [36] 41 88::zq [36] 42 89::zq [36] 43 90::zq [36] 44 91::[]) [(_,_),(_,_),(_,_),(_,_),(_,_),(_,_)] rfl ⟨z1 rfl,zp rfl (op_un _ _ _ _ rfl rfl),z8 hg9_2 rfl,zr' rfl (oM rfl),zr' rfl (op_un _ _ _ _ rfl rfl),z3 false rfl,z8 hg9_6 rfl,zr' rfl (oM rfl),zr' rfl (op_un _ _ _ _ rfl rfl),z3 false rfl,z8 hg9_10 rfl,zr' rfl (oM rfl),zr' rfl (op_un _ _ _ _ rfl rfl),z3 false rfl,z8 hg9_14 rfl,zf rfl,zf rfl,z3 true rfl,z1 rfl,zf rfl,zf rfl,zf rfl,zf rfl,zf rfl,z3 true rfl,z1 rfl,zf rfl,zf rfl,zf rfl,zf rfl,zf rfl,zf rfl,zf rfl,z3 true rfl,zz⟩ ?_
        exact hl22 _ (Option.some.inj h).symm
       ·refine cond_some h (fun hg9_18 h => ?_) (fun hg9_18 h => ?_)
        ·refine zg hn (_::_::_::_::_::_::_::_::_::_::_::(58,vb v6.2)::(59,vb (!v6.2))::(60,vb false)::(61,vb v10.2)::(62,vb (!v10.2))::(63,vb (!v10.2))::(64,vb false)::(65,vb v14.2)::(66,vb (!v14.2))::(67,vb (!v14.2))::(68,vb false)::(69,vb v15.2)::(70,vb (!v15.2))::(71,vb (!v15.2))::(72,vb false)::(73,vb v16.2)::(74,vb (!v16.2))::(75,vb (!v16.2))::(76,vb true)::(77,.v undef)::(78,.v undef)::(79,.v undef)::(80,.v undef)::(81,.v undef)::(82,vb true)::(83,vb true)::(84,.v undef)::(85,.v undef)::(86,.v undef)::(87,.v undef)::(88,.v undef)::(89,.v undef)::(90,.v undef)::(91,vb true)::[]) [0,1,2,3,4,5,6,7,8,9,10] [1,2,3,7,9,44] (zq [4] 11 58::zq [11] 12 59::zq [12] 13 60::zq [13,5] 14 61::zq [13,14] 15 62::zq [13,15] 16 63::zq [16] 17 64::zq [17,6] 18 65::zq [17,18] 19 66::zq [17,19] 20 67::zq [20] 21 68::zq [21,8] 22 69::zq [21,22] 23 70::zq [21,23] 24 71::zq [24] 25 72::zq [25,10] 26 73::zq [25,26] 27 74::zq [25,27] 28 75::zq [28] 29 76::zq [29] 30 77::zq [29] 31 78::zq [29] 32 79::zq [29] 33 80::zq [29] 34 81::zq [29] 35 82::zq [35] 36 83::zq [36] 37 84::zq [36] 38 85::zq [36] 39 86::zq [36] 40 87::zq [36] 41 88::zq [36] 42 89::zq [36] 43 90::zq [36] 44 91::[]) [(_,_),(_,_),(_,_),(_,_),(_,_),(_,_)] rfl ⟨z1 rfl,zp rfl (op_un _ _ _ _ rfl rfl),z8 hg9_2 rfl,zr' rfl (oM rfl),zr' rfl (op_un _ _ _ _ rfl rfl),z3 false rfl,z8 hg9_6 rfl,zr' rfl (oM rfl),zr' rfl (op_un _ _ _ _ rfl rfl),z3 false rfl,z8 hg9_10 rfl,zr' rfl (oM rfl),zr' rfl (op_un _ _ _ _ rfl rfl),z3 false rfl,z8 hg9_14 rfl,zr' rfl (oM rfl),zr' rfl (op_un _ _ _ _ rfl rfl),z3 false rfl,z8 hg9_18 rfl,zf rfl,zf rfl,zf rfl,zf rfl,zf rfl,z3 true rfl,z1 rfl,zf rfl,zf rfl,zf rfl,zf rfl,zf rfl,zf rfl,zf rfl,z3 true rfl,zz⟩ ?_
         exact hl22 _ (Option.some.inj h).symm
        ·obtain ⟨v17, hv17, h⟩ := bind_some h
         refine cond_some h (fun hg9_25 h => ?_) (fun hg9_25 h => ?_)
         ·refine zg hn (_::_::_::_::_::_::_::_::_::_::_::(58,vb v6.2)::(59,vb (!v6.2))::(60,vb false)::(61,vb v10.2)::(62,vb (!v10.2))::(63,vb (!v10.2))::(64,vb false)::(65,vb v14.2)::(66,vb (!v14.2))::(67,vb (!v14.2))::(68,vb false)::(69,vb v15.2)::(70,vb (!v15.2))::(71,vb (!v15.2))::(72,vb false)::(73,vb v16.2)::(74,vb (!v16.2))::(75,vb (!v16.2))::(76,vb false)::(77,vs v6.1)::(78,.agg [vb v15.1.Null,vs v15.1.Local,vs v15.1.Domain])::(79,.agg [vb v16.1.Null,vs v16.1.Local,vs v16.1.Domain])::(80,vb v17)::(81,vb (!v17))::(82,vb (!v17))::(83,vb true)::(84,.v undef)::(85,.v undef)::(86,.v undef)::(87,.v undef)::(88,.v undef)::(89,.v undef)::(90,.v undef)::(91,vb true)::[]) [0,1,2,3,4,5,6,7,8,9,10] [1,2,3,7,9,44] (zq [4] 11 58::zq [11] 12 59::zq [12] 13 60::zq [13,5] 14 61::zq [13,14] 15 62::zq [13,15] 16 63::zq [16] 17 64::zq [17,6] 18 65::zq [17,18] 19 66::zq [17,19] 20 67::zq [20] 21 68::zq [21,8] 22 69::zq [21,22] 23 70::zq [21,23] 24 71::zq [24] 25 72::zq [25,10] 26 73::zq [25,26] 27 74::zq [25,27] 28 75::zq [28] 29 76::zq [29,3] 30 77::zq [29,7] 31 78::zq [29,9] 32 79::zq [29,30,31,32] 33 80::zq [29,33] 34 81::zq [29,34] 35 82::zq [35] 36 83::zq [36] 37 84::zq [36] 38 85::zq [36] 39 86::zq [36] 40 87::zq [36] 41 88::zq [36] 42 89::zq [36] 43 90::zq [36] 44 91::[]) [(_,_),(_,_),(_,_),(_,_),(_,_),(_,_)] rfl ⟨z1 rfl,zp rfl (op_un _ _ _ _ rfl rfl),z8 hg9_2 rfl,zr' rfl (oM rfl),zr' rfl (op_un _ _ _ _ rfl rfl),z3 false rfl,z8 hg9_6 rfl,zr' rfl (oM rfl),zr' rfl (op_un _ _ _ _ rfl rfl),z3 false rfl,z8 hg9_10 rfl,zr' rfl (oM rfl),zr' rfl (op_un _ _ _ _ rfl rfl),z3 false rfl,z8 hg9_14 rfl,zr' rfl (oM rfl),zr' rfl (op_un _ _ _ _ rfl rfl),z3 false rfl,z8 hg9_18 rfl,zr' rfl (oM rfl),zr' rfl (op_loadA _ _ _ _ _ _ _ underlying23 rfl sz23 rfl rfl (zl rfl) rfl rfl),zr' rfl (op_loadA _ _ _ _ _ _ _ underlying23 rfl sz23 rfl rfl (zl rfl) rfl rfl),zr' rfl (op_call _ _ 10 _ _ rfl call10 rfl (ok_wherryref11_RightReport v6.1 v15.1 v16.1 _ hv17) rfl rfl),zr' rfl (op_un _ _ _ _ rfl rfl),z3 false rfl,z8 hg9_25 rfl,zf rfl,zf rfl,zf rfl,zf rfl,zf rfl,zf rfl,zf rfl,z3 true rfl,zz⟩ ?_
          exact hl22 _ (Option.some.inj h).symm
         ·obtain ⟨v18, hv18, h⟩ := bind_some h
          obtain ⟨v19, hv19, h⟩ := bind_some h
          refine zg hn (_::_::_::_::_::_::_::_::_::_::_::(58,vb v6.2)::(59,vb (!v6.2))::(60,vb false)::(61,vb v10.2)::(62,vb (!v10.2))::(63,vb (!v10.2))::(64,vb false)::(65,vb v14.2)::(66,vb (!v14.2))::(67,vb (!v14.2))::(68,vb false)::(69,vb v15.2)::(70,vb (!v15.2))::(71,vb (!v15.2))::(72,vb false)::(73,vb v16.2)::(74,vb (!v16.2))::(75,vb (!v16.2))::(76,vb false)::(77,vs v6.1)::(78,.agg [vb v15.1.Null,vs v15.1.Local,vs v15.1.Domain])::(79,.agg [vb v16.1.Null,vs v16.1.Local,vs v16.1.Domain])::(80,vb v17)::(81,vb (!v17))::(82,vb (!v17))::(83,vb false)::(84,vs v6.1)::(85,.agg [vb v15.1.Null,vs v15.1.Local,vs v15.1.Domain])::(86,.agg [vb v16.1.Null,vs v16.1.Local,vs v16.1.Domain])::(87,.mkr 5 (List.map (Value.int .u8) v18))::(88,.fl .shr 1 (List.map (Value.int .u8) b))::(89,vb v19)::(90,vb (!v19))::(91,vb (!v19))::[]) [0,1,2,3,4,5,6,7,8,9,10] [1,2,3,7,9,44] (zq [4] 11 58::zq [11] 12 59::zq [12] 13 60::zq [13,5] 14 61::zq [13,14] 15 62::zq [13,15] 16 63::zq [16] 17 64::zq [17,6] 18 65::zq [17,18] 19 66::zq [17,19] 20 67::zq [20] 21 68::zq [21,8] 22 69::zq [21,22] 23 70::zq [21,23] 24 71::zq [24] 25 72::zq [25,10] 26 73::zq [25,26] 27 74::zq [25,27] 28 75::zq [28] 29 76::zq [29,3] 30 77::zq [29,7] 31 78::zq [29,9] 32 79::zq [29,30,31,32] 33 80::zq [29,33] 34 81::zq [29,34] 35 82::zq [35] 36 83::zq [36,3] 37 84::zq [36,7] 38 85::zq [36,9] 39 86::zq [36,37,38,39] 40 87::zq [36,0] 41 88::zq [36,40,41] 42 89::zq [36,42] 43 90::zq [36,43] 44 91::[]) [(_,_),(_,_),(_,_),(_,_),(_,_),(_,_)] rfl ⟨z1 rfl,zp rfl (op_un _ _ _ _ rfl rfl),z8 hg9_2 rfl,zr' rfl (oM rfl),zr' rfl (op_un _ _ _ _ rfl rfl),z3 false rfl,z8 hg9_6 rfl,zr' rfl (oM rfl),zr' rfl (op_un _ _ _ _ rfl rfl),z3 false rfl,z8 hg9_10 rfl,zr' rfl (oM rfl),zr' rfl (op_un _ _ _ _ rfl rfl),z3 false rfl,z8 hg9_14 rfl,zr' rfl (oM rfl),zr' rfl (op_un _ _ _ _ rfl rfl),z3 false rfl,z8 hg9_18 rfl,zr' rfl (oM rfl),zr' rfl (op_loadA _ _ _ _ _ _ _ underlying23 rfl sz23 rfl rfl (zl rfl) rfl rfl),zr' rfl (op_loadA _ _ _ _ _ _ _ underlying23 rfl sz23 rfl rfl (zl rfl) rfl rfl),zr' rfl (op_call _ _ 10 _ _ rfl call10 rfl (ok_wherryref11_RightReport v6.1 v15.1 v16.1 _ hv17) rfl rfl),zr' rfl (op_un _ _ _ _ rfl rfl),z3 false rfl,z8 hg9_25 rfl,zr' rfl (oM rfl),zr' rfl (op_loadA _ _ _ _ _ _ _ underlying23 rfl sz23 rfl rfl (zl rfl) rfl rfl),zr' rfl (op_loadA _ _ _ _ _ _ _ underlying23 rfl sz23 rfl rfl (zl rfl) rfl rfl),zr' rfl (op_call _ _ 12 _ _ rfl call12 rfl (ok_wherryref11_Report v6.1 v15.1 v16.1 _ hv18) rfl rfl),zr' rfl (oM rfl),zr' rfl (op_call _ _ 11 _ _ rfl call11 rfl (ok_wherrykeep_Bytes v18 b _ hv19) rfl rfl),zr' rfl (op_un _ _ _ _ rfl rfl),z3 false rfl,zz⟩ ?_
          exact hl22 _ (Option.some.inj h).symm
theorem ok_wherrykeep_Path (a : T_Path) (b : T_Path) (r : Bool) (h : Sh.wherrykeep_Path a b = some r) : FnOK Tryd.prog 13 [.agg [.v (.bool a.Null), .v (.string a.Local), .v (.string a.Domain)], .agg [.v (.bool b.Null), .v (.string b.Local), .v (.string b.Domain)]] (.v (.bool r)) := by
  unfold Sh.wherrykeep_Path at h
  refine fn_ok func13 rfl (zl rfl) rfl rfl fun g0 hn hio => ?_
  refine zgg hn [_,_,(2,.box 23 [vb a.Null,vs a.Local,vs a.Domain]),(3,.box 23 [vb b.Null,vs b.Local,vs b.Domain]),(4,vb false)] [0,1] [2,3] [zq [0] 2 2,zq [1] 3 3,zq [] 4 4] [(_,_),(_,_)] rfl ⟨zp rfl (op_box _ _ _ _ rfl rfl rfl),zp rfl (op_box _ _ _ _ rfl rfl rfl),z2 rfl,zz⟩ ?_
  refine ht_seq ?_
  refine ht_joinS h (fun (s2 : Bool) => [(4, .v (.bool s2))]) ?_ ?_
  ·rintro s2 h
   refine pt_then (ht_ret ?_)
   obtain rfl := Option.some.inj h
   exact pt_ret hio rfl (.tmp _ _ .nil) rfl rfl
  ·intro u3 h hl4 hr5
   obtain ⟨v1, hv1, h⟩ := bind_some h
   refine cond_some h (fun hg1_5 h => ?_) (fun hg1_5 h => ?_)
   ·refine cond_some h (fun hg1_12 h => ?_) (fun hg1_12 h => ?_)
    ·refine zg hn (_::_::(5,.ptr 2 0)::(6,vb a.Null)::(7,.ptr 3 0)::(8,vb b.Null)::(9,vb (a.Null == b.Null))::(10,vb true)::(11,.ptr 2 1)::(12,vs a.Local)::(13,.ptr 3 1)::(14,vs b.Local)::(15,vb (a.Local.toList == b.Local.toList))::(16,vb (a.Local.toList == b.Local.toList))::(17,vb true)::(18,.ptr 2 2)::(19,vs a.Domain)::(20,.ptr 3 2)::(21,vs b.Domain)::(22,vb (a.Domain.toList == b.Domain.toList))::(23,vb (a.Domain.toList == b.Domain.toList))::(4,vb (a.Domain.toList == b.Domain.toList))::[]) [0,1] [21] (zq [0] 2 5::zq [2,0] 3 6::zq [1] 4 7::zq [4,1] 5 8::zq [3,5] 6 9::zq [6] 7 10::zq [7,0] 8 11::zq [7,8,0] 9 12::zq [7,1] 10 13::zq [7,10,1] 11 14::zq [7,9,11] 12 15::zq [7,12] 13 16::zq [13] 14 17::zq [14,0] 15 18::zq [14,15,0] 16 19::zq [14,1] 17 20::zq [14,17,1] 18 21::zq [14,16,18] 19 22::zq [14,19] 20 23::zq [20] 21 4::[]) [(_,_)] rfl ⟨zp rfl (oF underlying23 rfl sz4),zp rfl (oL underlying4 rfl),zp rfl (oF underlying23 rfl sz4),zp rfl (oL underlying4 rfl),zp rfl (op_beq _ _ _ _ underlying4 rfl rfl),z8 hg1_5 rfl,zr' rfl (oF underlying23 rfl sz9),zr' rfl (oL underlying9 rfl),zr' rfl (oF underlying23 rfl sz9),zr' rfl (oL underlying9 rfl),zr' rfl (oB rfl rfl),z3 true rfl,z8 hg1_12 rfl,zr' rfl (oF underlying23 rfl sz9),zr' rfl (oL underlying9 rfl),zr' rfl (oF underlying23 rfl sz9),zr' rfl (oL underlying9 rfl),zr' rfl (oB rfl rfl),z3 true rfl,z2 rfl,zz⟩ ?_
     exact hl4 _ (Option.some.inj h).symm
    ·refine zg hn (_::_::(5,.ptr 2 0)::(6,vb a.Null)::(7,.ptr 3 0)::(8,vb b.Null)::(9,vb (a.Null == b.Null))::(10,vb true)::(11,.ptr 2 1)::(12,vs a.Local)::(13,.ptr 3 1)::(14,vs b.Local)::(15,vb (a.Local.toList == b.Local.toList))::(16,vb (a.Local.toList == b.Local.toList))::(17,vb false)::(18,.v undef)::(19,.v undef)::(20,.v undef)::(21,.v undef)::(22,.v undef)::(23,vb false)::(4,vb false)::[]) [0,1] [21] (zq [0] 2 5::zq [2,0] 3 6::zq [1] 4 7::zq [4,1] 5 8::zq [3,5] 6 9::zq [6] 7 10::zq [7,0] 8 11::zq [7,8,0] 9 12::zq [7,1] 10 13::zq [7,10,1] 11 14::zq [7,9,11] 12 15::zq [7,12] 13 16::zq [13] 14 17::zq [14] 15 18::zq [14] 16 19::zq [14] 17 20::zq [14] 18 21::zq [14] 19 22::zq [14] 20 23::zq [20] 21 4::[]) [(_,_)] rfl ⟨zp rfl (oF underlying23 rfl sz4),zp rfl (oL underlying4 rfl),zp rfl (oF underlying23 rfl sz4),zp rfl (oL underlying4 rfl),zp rfl (op_beq _ _ _ _ underlying4 rfl rfl),z8 hg1_5 rfl,zr' rfl (oF underlying23 rfl sz9),zr' rfl (oL underlying9 rfl),zr' rfl (oF underlying23 rfl sz9),zr' rfl (oL underlying9 rfl),zr' rfl (oB rfl rfl),z3 true rfl,z8 hg1_12 rfl,zt rfl,zt rfl,zt rfl,zt rfl,zt rfl,z3 false rfl,z2 rfl,zz⟩ ?_
     exact hl4 _ (Option.some.inj h).symm
   ·refine zg hn (_::_::(5,.ptr 2 0)::(6,vb a.Null)::(7,.ptr 3 0)::(8,vb b.Null)::(9,vb (a.Null == b.Null))::(10,vb false)::(11,.v undef)::(12,.v undef)::(13,.v undef)::(14,.v undef)::(15,.v undef)::(16,vb false)::(17,vb false)::(18,.v undef)::(19,.v undef)::(20,.v undef)::(21,.v undef)::(22,.v undef)::(23,vb false)::(4,vb false)::[]) [0,1] [21] (zq [0] 2 5::zq [2,0] 3 6::zq [1] 4 7::zq [4,1] 5 8::zq [3,5] 6 9::zq [6] 7 10::zq [7] 8 11::zq [7] 9 12::zq [7] 10 13::zq [7] 11 14::zq [7] 12 15::zq [7] 13 16::zq [13] 14 17::zq [14] 15 18::zq [14] 16 19::zq [14] 17 20::zq [14] 18 21::zq [14] 19 22::zq [14] 20 23::zq [20] 21 4::[]) [(_,_)] rfl ⟨zp rfl (oF underlying23 rfl sz4),zp rfl (oL underlying4 rfl),zp rfl (oF underlying23 rfl sz4),zp rfl (oL underlying4 rfl),zp rfl (op_beq _ _ _ _ underlying4 rfl rfl),z8 hg1_5 rfl,zt rfl,zt rfl,zt rfl,zt rfl,zt rfl,z3 false rfl,z1 rfl,zt rfl,zt rfl,zt rfl,zt rfl,zt rfl,z3 false rfl,z2 rfl,zz⟩ ?_
    exact hl4 _ (Option.some.inj h).symm
theorem ok_wherrylaw16_wakes (mx : Int) (r : Bool) (h : Sh.wherrylaw16_wakes  = some r) : FnG Tryd.prog (GL mx) 14 [] (.v (.bool r)) := by
  unfold Sh.wherrylaw16_wakes at h
  refine fn_okG func14 rfl (zl rfl) rfl rfl fun g0 hn hio => ?_
  refine zgg hn [_,(0,vb false)] [0] [0] [zq [] 1 0] [(_,_)] rfl ⟨z2 rfl,zz⟩ ?_
  refine zgg hn [_,(9,.agg [vb false,vs (⟨#[97]⟩ : ByteArray),vs (⟨#[120]⟩ : ByteArray)]),(10,.agg [vb false,vs (⟨#[98]⟩ : ByteArray),vs (⟨#[121]⟩ : ByteArray)]),(1,.box 23 [vb false,vs z0,vs z0]),(2,.box 23 [vb false,vs z0,vs z0]),(1,.box 23 [vb false,vs (⟨#[97]⟩ : ByteArray),vs (⟨#[120]⟩ : ByteArray)]),(2,.box 23 [vb false,vs (⟨#[98]⟩ : ByteArray),vs (⟨#[121]⟩ : ByteArray)])] [0] [0,5,6] [zq [] 1 9,zq [] 2 10,zq [] 3 1,zq [] 4 2,⟨[1],[3],[5],[.cell 1 0,.cell 1 1,.cell 1 2]⟩,⟨[2],[4],[6],[.cell 2 0,.cell 2 1,.cell 2 2]⟩] [(_,_),(_,_),(_,_)] rfl ⟨zp rfl (op_build _ _ _ _ [1, 1, 1] _ _ underlying23 zr23 (fs23 _ underlying23) (.copy _ (.copy _ Src.nil)) rfl rfl rfl),zp rfl (op_build _ _ _ _ [1, 1, 1] _ _ underlying23 zr23 (fs23 _ underlying23) (.copy _ (.copy _ Src.nil)) rfl rfl rfl),zp rfl (op_alloc _ _ zr23),zp rfl (op_alloc _ _ zr23),zp rfl (oS sz23 rfl),zp rfl (oS sz23 rfl),zz⟩ ?_
  refine ht_seq ?_
  obtain ⟨v1, hv1, h⟩ := bind_some h
  refine zg hn [_,_,_,(12,.agg [vb false,vs (⟨#[97]⟩ : ByteArray),vs (⟨#[120]⟩ : ByteArray)]),(13,.agg [vb false,vs (⟨#[98]⟩ : ByteArray),vs (⟨#[121]⟩ : ByteArray)]),(14,.tup [.mkr 5 (List.map (Value.int .u8) v1.1),vi v1.2]),(11,.tup [.mkr 5 (List.map (Value.int .u8) v1.1),vi v1.2]),(15,.mkr 5 (List.map (Value.int .u8) v1.1)),(11,.tup [.any,vi v1.2]),(16,vi v1.2),(3,.mkr 5 (List.map (Value.int .u8) v1.1)),(4,vi v1.2)] [0,1,2] [0,1,2,10,11] [zq [1] 3 12,zq [2] 4 13,zq [3,4,0] 5 14,⟨[],[5],[6],[(.slot 11)]⟩,⟨[],[6],[8,7],[(.slot 15)]⟩,zq [8] 9 16,⟨[],[7],[10],[(.slot 3)]⟩,zq [9] 11 4] [(_,_),(_,_),(_,_),(_,_),(_,_)] rfl ⟨zp rfl (op_loadA _ _ _ _ _ _ _ underlying23 rfl sz23 rfl rfl (zl rfl) rfl rfl),zp rfl (op_loadA _ _ _ _ _ _ _ underlying23 rfl sz23 rfl rfl (zl rfl) rfl rfl),zp rfl (op_callG _ _ 50 7 _ _ rfl call7 rfl rfl (fun _ h => h) (ok_report_Build mx (⟨#[115]⟩ : ByteArray) ((T_Path.mk false (⟨#[97]⟩ : ByteArray) (⟨#[120]⟩ : ByteArray))) ((T_Path.mk false (⟨#[98]⟩ : ByteArray) (⟨#[121]⟩ : ByteArray))) _ hv1) rfl rfl),zp rfl (op_move_take _ _ _ _ rfl),zp rfl (op_extract_take _ _ _ _ _ rfl (zl rfl) rfl rfl (by decide) rfl),zp rfl (oE rfl),zp rfl (op_assign_take _ _ _ _ rfl),z2 rfl,zz⟩ ?_
  refine pt_then (ht_seq ?_)
  obtain ⟨v2, hv2, h⟩ := bind_some h
  refine zg hn (_::_::_::_::_::(18,.same (.slot 3))::(19,.tup [vs v2.1,.agg [vb v2.2.1.Null,vs v2.2.1.Local,vs v2.2.1.Domain],.agg [vb v2.2.2.1.Null,vs v2.2.2.1.Local,vs v2.2.2.1.Domain],vi v2.2.2.2])::(17,.tup [vs v2.1,.agg [vb v2.2.1.Null,vs v2.2.1.Local,vs v2.2.1.Domain],.agg [vb v2.2.2.1.Null,vs v2.2.2.1.Local,vs v2.2.2.1.Domain],vi v2.2.2.2])::(20,vs v2.1)::(21,.agg [vb v2.2.1.Null,vs v2.2.1.Local,vs v2.2.1.Domain])::(22,.agg [vb v2.2.2.1.Null,vs v2.2.2.1.Local,vs v2.2.2.1.Domain])::(23,vi v2.2.2.2)::(6,.box 23 [vb false,vs z0,vs z0])::(7,.box 23 [vb false,vs z0,vs z0])::(5,vs v2.1)::(6,.box 23 [vb v2.2.1.Null,vs v2.2.1.Local,vs v2.2.1.Domain])::(7,.box 23 [vb v2.2.2.1.Null,vs v2.2.2.1.Local,vs v2.2.2.1.Domain])::(8,vi v2.2.2.2)::[]) [0,1,2,3,4] [0,1,2,3,4,15,16,14,17] [zq [3] 5 18,zq [5,3,0] 6 19,⟨[],[6],[7],[(.slot 17)]⟩,zq [7] 8 20,zq [7] 9 21,zq [7] 10 22,zq [7] 11 23,zq [] 12 6,zq [] 13 7,zq [8] 14 5,⟨[9],[12],[15],[.cell 6 0,.cell 6 1,.cell 6 2]⟩,⟨[10],[13],[16],[.cell 7 0,.cell 7 1,.cell 7 2]⟩,zq [11] 17 8] [(_,_),(_,_),(_,_),(_,_),(_,_),(_,_),(_,_),(_,_),(_,_)] rfl ⟨z1 rfl,zp rfl (op_callG _ _ 50 8 _ _ rfl call8 rfl rfl (fun _ h => h) (ok_report_Read mx v1.1 _ hv2) rfl rfl),zp rfl (op_move_take _ _ _ _ rfl),zp rfl (oE rfl),zp rfl (op_extract_no _ _ _ _ _ _ rfl rfl (zl rfl) rfl rfl),zp rfl (op_extract_no _ _ _ _ _ _ rfl rfl (zl rfl) rfl rfl),zp rfl (oE rfl),zp rfl (op_alloc _ _ zr23),zp rfl (op_alloc _ _ zr23),z2 rfl,zp rfl (oS sz23 rfl),zp rfl (oS sz23 rfl),z2 rfl,zz⟩ ?_
  refine pt_then (ht_seq ?_)
  refine ht_joinS h (fun (s6 : Bool) => [(50, .glob (GL mx)), (0, .v (.bool s6))]) ?_ ?_
  ·rintro s6 h
   refine pt_then (ht_ret ?_)
   refine pt_pick [1] (by kernel_rfl) (es' := [(_,_)]) rfl ?_
   obtain rfl := Option.some.inj h
   exact pt_ret hio rfl (.tmp _ _ .nil) rfl rfl
  ·intro u7 h hl8 hr9
   refine cond_some h (fun hg4_2 h => ?_) (fun hg4_2 h => ?_)
   ·refine cond_some h (fun hg4_6 h => ?_) (fun hg4_6 h => ?_)
    ·refine cond_some h (fun hg4_10 h => ?_) (fun hg4_10 h => ?_)
     ·obtain ⟨v3, hv3, h⟩ := bind_some h
      refine cond_some h (fun hg4_15 h => ?_) (fun hg4_15 h => ?_)
      ·obtain ⟨v4, hv4, h⟩ := bind_some h
       refine cond_some h (fun hg4_20 h => ?_) (fun hg4_20 h => ?_)
       ·obtain ⟨v5, hv5, h⟩ := bind_some h
        refine zg hn (_::_::_::_::_::_::_::_::_::(24,vi v1.2)::(25,vb (v1.2 == 0))::(26,vb true)::(27,vi v2.2.2.2)::(28,vb (v2.2.2.2 == 0))::(29,vb (v2.2.2.2 == 0))::(30,vb true)::(31,vs v2.1)::(32,vb (v2.1.toList == (⟨#[115]⟩ : ByteArray).toList))::(33,vb (v2.1.toList == (⟨#[115]⟩ : ByteArray).toList))::(34,vb true)::(35,.agg [vb v2.2.1.Null,vs v2.2.1.Local,vs v2.2.1.Domain])::(36,.agg [vb false,vs (⟨#[97]⟩ : ByteArray),vs (⟨#[120]⟩ : ByteArray)])::(37,vb v3)::(38,vb v3)::(39,vb true)::(40,.agg [vb v2.2.2.1.Null,vs v2.2.2.1.Local,vs v2.2.2.1.Domain])::(41,.agg [vb false,vs (⟨#[98]⟩ : ByteArray),vs (⟨#[121]⟩ : ByteArray)])::(42,vb v4)::(43,vb v4)::(44,vb true)::(45,.mkr 5 (List.map (Value.int .u8) v1.1))::(46,.fr (.own 24) false 1 (List.flatten (List.map Row_int_u8.ienc v5)))::(47,vi (v5.length : Int))::(48,vb ((v5.length : Int) == 18))::(49,vb ((v5.length : Int) == 18))::(0,vb ((v5.length : Int) == 18))::[]) [0,1,2,3,4,5,6,7,8] [0,35] (zq [4] 9 24::zq [9] 10 25::zq [10] 11 26::zq [11,8] 12 27::zq [11,12] 13 28::zq [11,13] 14 29::zq [14] 15 30::zq [15,7] 16 31::zq [15,16] 17 32::zq [15,17] 18 33::zq [18] 19 34::zq [19,5] 20 35::zq [19,1] 21 36::zq [19,20,21] 22 37::zq [19,22] 23 38::zq [23] 24 39::zq [24,6] 25 40::zq [24,2] 26 41::zq [24,25,26] 27 42::zq [24,27] 28 43::zq [28] 29 44::⟨[29],[3],[30],[(.slot 45)]⟩::zq [29,30] 31 46::zq [29,31] 32 47::zq [29,32] 33 48::zq [29,33] 34 49::zq [34] 35 0::[]) [(_,_),(_,_)] rfl ⟨z1 rfl,z4 rfl rfl,z8 hg4_2 rfl,zr' rfl (oM rfl),zr' rfl (oB rfl rfl),z3 true rfl,z8 hg4_6 rfl,zr' rfl (oM rfl),zr' rfl (oB rfl rfl),z3 true rfl,z8 hg4_10 rfl,zr' rfl (op_loadA _ _ _ _ _ _ _ underlying23 rfl sz23 rfl rfl (zl rfl) rfl rfl),zr' rfl (op_loadA _ _ _ _ _ _ _ underlying23 rfl sz23 rfl rfl (zl rfl) rfl rfl),zr' rfl (op_call _ _ 13 _ _ rfl call13 rfl (ok_wherrykeep_Path v2.2.1 ((T_Path.mk false (⟨#[97]⟩ : ByteArray) (⟨#[120]⟩ : ByteArray))) _ hv3) rfl rfl),z3 true rfl,z8 hg4_15 rfl,zr' rfl (op_loadA _ _ _ _ _ _ _ underlying23 rfl sz23 rfl rfl (zl rfl) rfl rfl),zr' rfl (op_loadA _ _ _ _ _ _ _ underlying23 rfl sz23 rfl rfl (zl rfl) rfl rfl),zr' rfl (op_call _ _ 13 _ _ rfl call13 rfl (ok_wherrykeep_Path v2.2.2.1 ((T_Path.mk false (⟨#[98]⟩ : ByteArray) (⟨#[121]⟩ : ByteArray))) _ hv4) rfl rfl),z3 true rfl,z8 hg4_20 rfl,zr' rfl (op_move_take _ _ _ _ rfl),zr' rfl (op_call _ _ 17 _ _ rfl call17 rfl (ok_wherryref11_Lines v1.1 _ hv5) rfl rfl),zr' rfl (op_len_fr _ _ _ underlying44 rfl (by decide) (gflat_len Row_int_u8.ilen _)),zr' rfl (oB rfl rfl),z3 true rfl,z2 rfl,zz⟩ ?_
        exact hl8 _ (Option.some.inj h).symm
       ·refine zg hn (_::_::_::_::_::_::_::_::_::(24,vi v1.2)::(25,vb (v1.2 == 0))::(26,vb true)::(27,vi v2.2.2.2)::(28,vb (v2.2.2.2 == 0))::(29,vb (v2.2.2.2 == 0))::(30,vb true)::(31,vs v2.1)::(32,vb (v2.1.toList == (⟨#[115]⟩ : ByteArray).toList))::(33,vb (v2.1.toList == (⟨#[115]⟩ : ByteArray).toList))::(34,vb true)::(35,.agg [vb v2.2.1.Null,vs v2.2.1.Local,vs v2.2.1.Domain])::(36,.agg [vb false,vs (⟨#[97]⟩ : ByteArray),vs (⟨#[120]⟩ : ByteArray)])::(37,vb v3)::(38,vb v3)::(39,vb true)::(40,.agg [vb v2.2.2.1.Null,vs v2.2.2.1.Local,vs v2.2.2.1.Domain])::(41,.agg [vb false,vs (⟨#[98]⟩ : ByteArray),vs (⟨#[121]⟩ : ByteArray)])::(42,vb v4)::(43,vb v4)::(44,vb false)::(45,.v undef)::(46,.v undef)::(47,.v undef)::(48,.v undef)::(49,vb false)::(0,vb false)::[]) [0,1,2,3,4,5,6,7,8] [0,35] (zq [4] 9 24::zq [9] 10 25::zq [10] 11 26::zq [11,8] 12 27::zq [11,12] 13 28::zq [11,13] 14 29::zq [14] 15 30::zq [15,7] 16 31::zq [15,16] 17 32::zq [15,17] 18 33::zq [18] 19 34::zq [19,5] 20 35::zq [19,1] 21 36::zq [19,20,21] 22 37::zq [19,22] 23 38::zq [23] 24 39::zq [24,6] 25 40::zq [24,2] 26 41::zq [24,25,26] 27 42::zq [24,27] 28 43::zq [28] 29 44::zq [29] 30 45::zq [29] 31 46::zq [29] 32 47::zq [29] 33 48::zq [29] 34 49::zq [34] 35 0::[]) [(_,_),(_,_)] rfl ⟨z1 rfl,z4 rfl rfl,z8 hg4_2 rfl,zr' rfl (oM rfl),zr' rfl (oB rfl rfl),z3 true rfl,z8 hg4_6 rfl,zr' rfl (oM rfl),zr' rfl (oB rfl rfl),z3 true rfl,z8 hg4_10 rfl,zr' rfl (op_loadA _ _ _ _ _ _ _ underlying23 rfl sz23 rfl rfl (zl rfl) rfl rfl),zr' rfl (op_loadA _ _ _ _ _ _ _ underlying23 rfl sz23 rfl rfl (zl rfl) rfl rfl),zr' rfl (op_call _ _ 13 _ _ rfl call13 rfl (ok_wherrykeep_Path v2.2.1 ((T_Path.mk false (⟨#[97]⟩ : ByteArray) (⟨#[120]⟩ : ByteArray))) _ hv3) rfl rfl),z3 true rfl,z8 hg4_15 rfl,zr' rfl (op_loadA _ _ _ _ _ _ _ underlying23 rfl sz23 rfl rfl (zl rfl) rfl rfl),zr' rfl (op_loadA _ _ _ _ _ _ _ underlying23 rfl sz23 rfl rfl (zl rfl) rfl rfl),zr' rfl (op_call _ _ 13 _ _ rfl call13 rfl (ok_wherrykeep_Path v2.2.2.1 ((T_Path.mk false (⟨#[98]⟩ : ByteArray) (⟨#[121]⟩ : ByteArray))) _ hv4) rfl rfl),z3 true rfl,z8 hg4_20 rfl,zt rfl,zt rfl,zt rfl,zt rfl,z3 false rfl,z2 rfl,zz⟩ ?_
        exact hl8 _ (Option.some.inj h).symm
      ·refine zg hn (_::_::_::_::_::_::_::_::_::(24,vi v1.2)::(25,vb (v1.2 == 0))::(26,vb true)::(27,vi v2.2.2.2)::(28,vb (v2.2.2.2 == 0))::(29,vb (v2.2.2.2 == 0))::(30,vb true)::(31,vs v2.1)::(32,vb (v2.1.toList == (⟨#[115]⟩ : ByteArray).toList))::(33,vb (v2.1.toList == (⟨#[115]⟩ : ByteArray).toList))::(34,vb true)::(35,.agg [vb v2.2.1.Null,vs v2.2.1.Local,vs v2.2.1.Domain])::(36,.agg [vb false,vs (⟨#[97]⟩ : ByteArray),vs (⟨#[120]⟩ : ByteArray)])::(37,vb v3)::(38,vb v3)::(39,vb false)::(40,.v undef)::(41,.v undef)::(42,.v undef)::(43,vb false)::(44,vb false)::(45,.v undef)::(46,.v undef)::(47,.v undef)::(48,.v undef)::(49,vb false)::(0,vb false)::[]) [0,1,2,3,4,5,6,7,8] [0,35] (zq [4] 9 24::zq [9] 10 25::zq [10] 11 26::zq [11,8] 12 27::zq [11,12] 13 28::zq [11,13] 14 29::zq [14] 15 30::zq [15,7] 16 31::zq [15,16] 17 32::zq [15,17] 18 33::zq [18] 19 34::zq [19,5] 20 35::zq [19,1] 21 36::zq [19,20,21] 22 37::zq [19,22] 23 38::zq [23] 24 39::zq [24] 25 40::zq [24] 26 41::zq [24] 27 42::zq [24] 28 43::zq [28] 29 44::zq [29] 30 45::zq [29] 31 46::zq [29] 32 47::zq [29] 33 48::zq [29] 34 49::zq [34] 35 0::[]) [(_,_),(_,_)] rfl ⟨z1 rfl,z4 rfl rfl,z8 hg4_2 rfl,zr' rfl (oM rfl),zr' rfl (oB rfl rfl),z3 true rfl,z8 hg4_6 rfl,zr' rfl (oM rfl),zr' rfl (oB rfl rfl),z3 true rfl,z8 hg4_10 rfl,zr' rfl (op_loadA _ _ _ _ _ _ _ underlying23 rfl sz23 rfl rfl (zl rfl) rfl rfl),zr' rfl (op_loadA _ _ _ _ _ _ _ underlying23 rfl sz23 rfl rfl (zl rfl) rfl rfl),zr' rfl (op_call _ _ 13 _ _ rfl call13 rfl (ok_wherrykeep_Path v2.2.1 ((T_Path.mk false (⟨#[97]⟩ : ByteArray) (⟨#[120]⟩ : ByteArray))) _ hv3) rfl rfl),z3 true rfl,z8 hg4_15 rfl,zt rfl,zt rfl,zt rfl,z3 false rfl,z1 rfl,zt rfl,zt rfl,zt rfl,zt rfl,z3 false rfl,z2 rfl,zz⟩ ?_
       exact hl8 _ (Option.some.inj h).symm
     ·refine zg hn (_::_::_::_::_::_::_::_::_::(24,vi v1.2)::(25,vb (v1.2 == 0))::(26,vb true)::(27,vi v2.2.2.2)::(28,vb (v2.2.2.2 == 0))::(29,vb (v2.2.2.2 == 0))::(30,vb true)::(31,vs v2.1)::(32,vb (v2.1.toList == (⟨#[115]⟩ : ByteArray).toList))::(33,vb (v2.1.toList == (⟨#[115]⟩ : ByteArray).toList))::(34,vb false)::(35,.v undef)::(36,.v undef)::(37,.v undef)::(38,vb false)::(39,vb false)::(40,.v undef)::(41,.v undef)::(42,.v undef)::(43,vb false)::(44,vb false)::(45,.v undef)::(46,.v undef)::(47,.v undef)::(48,.v undef)::(49,vb false)::(0,vb false)::[]) [0,1,2,3,4,5,6,7,8] [0,35] (zq [4] 9 24::zq [9] 10 25::zq [10] 11 26::zq [11,8] 12 27::zq [11,12] 13 28::zq [11,13] 14 29::zq [14] 15 30::zq [15,7] 16 31::zq [15,16] 17 32::zq [15,17] 18 33::zq [18] 19 34::zq [19] 20 35::zq [19] 21 36::zq [19] 22 37::zq [19] 23 38::zq [23] 24 39::zq [24] 25 40::zq [24] 26 41::zq [24] 27 42::zq [24] 28 43::zq [28] 29 44::zq [29] 30 45::zq [29] 31 46::zq [29] 32 47::zq [29] 33 48::zq [29] 34 49::zq [34] 35 0::[]) [(_,_),(_,_)] rfl ⟨z1 rfl,z4 rfl rfl,z8 hg4_2 rfl,zr' rfl (oM rfl),zr' rfl (oB rfl rfl),z3 true rfl,z8 hg4_6 rfl,zr' rfl (oM rfl),zr' rfl (oB rfl rfl),z3 true rfl,z8 hg4_10 rfl,zt rfl,zt rfl,zt rfl,z3 false rfl,z1 rfl,zt rfl,zt rfl,zt rfl,z3 false rfl,z1 rfl,zt rfl,zt rfl,zt rfl,zt rfl,z3 false rfl,z2 rfl,zz⟩ ?_
      exact hl8 _ (Option.some.inj h).symm
    ·refine zg hn (_::_::_::_::_::_::_::_::_::(24,vi v1.2)::(25,vb (v1.2 == 0))::(26,vb true)::(27,vi v2.2.2.2)::(28,vb (v2.2.2.2 == 0))::(29,vb (v2.2.2.2 == 0))::(30,vb false)::(31,.v undef)::(32,.v undef)::(33,vb false)::(34,vb false)::(35,.v undef)::(36,.v undef)::(37,.v undef)::(38,vb false)::(39,vb false)::(40,.v undef)::(41,.v undef)::(42,.v undef)::(43,vb false)::(44,vb false)::(45,.v undef)::(46,.v undef)::(47,.v undef)::(48,.v undef)::(49,vb false)::(0,vb false)::[]) [0,1,2,3,4,5,6,7,8] [0,35] (zq [4] 9 24::zq [9] 10 25::zq [10] 11 26::zq [11,8] 12 27::zq [11,12] 13 28::zq [11,13] 14 29::zq [14] 15 30::zq [15] 16 31::zq [15] 17 32::zq [15] 18 33::zq [18] 19 34::zq [19] 20 35::zq [19] 21 36::zq [19] 22 37::zq [19] 23 38::zq [23] 24 39::zq [24] 25 40::zq [24] 26 41::zq [24] 27 42::zq [24] 28 43::zq [28] 29 44::zq [29] 30 45::zq [29] 31 46::zq [29] 32 47::zq [29] 33 48::zq [29] 34 49::zq [34] 35 0::[]) [(_,_),(_,_)] rfl ⟨z1 rfl,z4 rfl rfl,z8 hg4_2 rfl,zr' rfl (oM rfl),zr' rfl (oB rfl rfl),z3 true rfl,z8 hg4_6 rfl,zt rfl,zt rfl,z3 false rfl,z1 rfl,zt rfl,zt rfl,zt rfl,z3 false rfl,z1 rfl,zt rfl,zt rfl,zt rfl,z3 false rfl,z1 rfl,zt rfl,zt rfl,zt rfl,zt rfl,z3 false rfl,z2 rfl,zz⟩ ?_
     exact hl8 _ (Option.some.inj h).symm
   ·refine zg hn (_::_::_::_::_::_::_::_::_::(24,vi v1.2)::(25,vb (v1.2 == 0))::(26,vb false)::(27,.v undef)::(28,.v undef)::(29,vb false)::(30,vb false)::(31,.v undef)::(32,.v undef)::(33,vb false)::(34,vb false)::(35,.v undef)::(36,.v undef)::(37,.v undef)::(38,vb false)::(39,vb false)::(40,.v undef)::(41,.v undef)::(42,.v undef)::(43,vb false)::(44,vb false)::(45,.v undef)::(46,.v undef)::(47,.v undef)::(48,.v undef)::(49,vb false)::(0,vb false)::[]) [0,1,2,3,4,5,6,7,8] [0,35] (zq [4] 9 24::zq [9] 10 25::zq [10] 11 26::zq [11] 12 27::zq [11] 13 28::zq [11] 14 29::zq [14] 15 30::zq [15] 16 31::zq [15] 17 32::zq [15] 18 33::zq [18] 19 34::zq [19] 20 35::zq [19] 21 36::zq [19] 22 37::zq [19] 23 38::zq [23] 24 39::zq [24] 25 40::zq [24] 26 41::zq [24] 27 42::zq [24] 28 43::zq [28] 29 44::zq [29] 30 45::zq [29] 31 46::zq [29] 32 47::zq [29] 33 48::zq [29] 34 49::zq [34] 35 0::[]) [(_,_),(_,_)] rfl ⟨z1 rfl,z4 rfl rfl,z8 hg4_2 rfl,zt rfl,zt rfl,z3 false rfl,z1 rfl,zt rfl,zt rfl,z3 false rfl,z1 rfl,zt rfl,zt rfl,zt rfl,z3 false rfl,z1 rfl,zt rfl,zt rfl,zt rfl,z3 false rfl,z1 rfl,zt rfl,zt rfl,zt rfl,zt rfl,z3 false rfl,z2 rfl,zz⟩ ?_
    exact hl8 _ (Option.some.inj h).symm
end Go.Proofs.YtccfiglffammoaaDoor
