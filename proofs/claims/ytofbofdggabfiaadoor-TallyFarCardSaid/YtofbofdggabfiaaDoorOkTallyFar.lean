/-
  The model's runs are what is told in Lean.
-/
import Derived.Test.YtofbofdggabfiaaDoorProg
import Derived.KernelRfl
import Derived.Test.YtofbofdggabfiaaDoorShelf
import Derived.Test.YtofbofdggabfiaaDoorB3
import Derived.Test.YtofbofdggabfiaaDoorOkc2
set_option linter.unusedVariables false
set_option linter.unusedSimpArgs false
set_option maxHeartbeats 1000000
namespace Go.Proofs.YtofbofdggabfiaaDoor
open Go.Abs Go.Abs.Sh Tryd
open List (map flatten)
open Value (int)

theorem ok_wherrylaw26_TallyFar (mx : Int) (c : T_Config) (m : T_Mail) (i : Int) (r : Bool) (h : Sh.wherrylaw26_TallyFar c m i = some r) : FnG Tryd.prog (GL mx) 5 [.agg [.v (.string ((c.Domains.getD 0 (⟨#[]⟩ : ByteArray)))), .v (.string ((c.Domains.getD 1 (⟨#[]⟩ : ByteArray)))), .v (.int .i64 c.Expiry), .v (.string c.User), .v (.string c.Secret), .v (.int .i64 c.Log), .v (.bool c.Held)], .agg [.v (.bool m.From.Null), .v (.string m.From.Local), .v (.string m.From.Domain), .fl .shr 3 (flatten (map T_Path.enc m.To)), .fl .shr 1 (map (int .u8) m.Body), .v (.bool m.Quiet), .v (.string m.Helo), .v (.int .i64 m.At)], .v (.int .i64 i)] (.v (.bool r)) := by
  unfold Sh.wherrylaw26_TallyFar at h
  refine fn_okG func5 rfl (zl rfl) rfl rfl fun g0 hn hio => ?_
  refine zgg hn [_,_,_,_,(3,.box 53 [vs (c.Domains.getD 0 z0),vs (c.Domains.getD 1 z0),vi c.Expiry,vs c.User,vs c.Secret,vi c.Log,vb c.Held]),(4,.box 36 [vb m.From.Null,vs m.From.Local,vs m.From.Domain,.fl .shr 3 (flatten (map T_Path.enc m.To)),fb m.Body,vb m.Quiet,vs m.Helo,vi m.At]),(6,vb false)] [0,1,2,3] [2,3,4,5] [zq [0] 4 3,zq [1] 5 4,zq [] 6 6] [(_,_),(_,_),(_,_),(_,_)] rfl ⟨zp rfl (op_box _ _ _ _ rfl rfl rfl),zp rfl (op_box _ _ _ _ rfl rfl rfl),z2 rfl,zz⟩ ?_
  refine ht_seq ?_
  refine ht_seq ?_
  refine ht_joinS h (fun (s4 : Bool) => [(2,vi i),(114,.glob (GL mx)),(3,.box 53 [vs (c.Domains.getD 0 z0),vs (c.Domains.getD 1 z0),vi c.Expiry,vs c.User,vs c.Secret,vi c.Log,vb c.Held]),(4,.box 36 [vb m.From.Null,vs m.From.Local,vs m.From.Domain,.fl .shr 3 (flatten (map T_Path.enc m.To)),fb m.Body,vb m.Quiet,vs m.Helo,vi m.At]),(24,vb s4)]) ?_ ?_
  ·rintro s4 h
   refine pt_then ?_
   refine ht_cond _ rfl (fun hb8 => ?_) (fun hb8 => ?_)
   ·have h := cond_t hb8 h
    refine zgg hn [_,_,_,_,_,(6,vb true)] [0,1,2,3,4] [1,5] [zq [] 5 6] [(_,_),(_,_)] rfl ⟨z2 rfl,zz⟩ ?_
    refine ht_ret ?_
    refine pt_pick [1] (by kernel_rfl) (es' := [(_,_)]) rfl ?_
    refine pt_r_then ?_
    obtain rfl := zi h
    exact pt_ret hio rfl (.tmp _ _ .nil) rfl rfl
   ·have h := cond_f hb8 h
    refine ht_skip ?_
    refine pt_then (ht_seq ?_)
    obtain ⟨v9, hv9, h⟩ := zn h
    obtain ⟨v10, hv10, h⟩ := zn h
    refine ht_anyR (by kernel_rfl) hn (El := [_,_,_,_,_,(25,.agg [vs (c.Domains.getD 0 z0),vs (c.Domains.getD 1 z0),vi c.Expiry,vs c.User,vs c.Secret,vi c.Log,vb c.Held]),(26,.agg [vb m.From.Null,vs m.From.Local,vs m.From.Domain,.fl .shr 3 (flatten (map T_Path.enc m.To)),fb m.Body,vb m.Quiet,vs m.Helo,vi m.At]),(27,.fl (.own 24) 3 (flatten (map T_Path.enc v9))),(28,.agg [vs (c.Domains.getD 0 z0),vs (c.Domains.getD 1 z0),vi c.Expiry,vs c.User,vs c.Secret,vi c.Log,vb c.Held]),(29,.agg [vb m.From.Null,vs m.From.Local,vs m.From.Domain,.fl .shr 3 (flatten (map T_Path.enc m.To)),fb m.Body,vb m.Quiet,vs m.Helo,vi m.At]),(30,.fl (.own 24) 3 (flatten (map T_Path.enc v10))),(7,.fl (.own 24) 3 (flatten (map T_Path.enc v9))),(8,.fl (.own 24) 3 (flatten (map T_Path.enc v10)))]) (init := [0,1,2,3,4]) (fin := [0,1,2,3,11,12]) (sps := [zq [2] 5 25,zq [3] 6 26,zq [5,6,1] 7 27,zq [2] 8 28,zq [3] 9 29,zq [8,9,1] 10 30,⟨[],[7],[11],[(.slot 7)]⟩,⟨[],[10],[12],[(.slot 8)]⟩]) (es' := [(_,_),(_,_),(_,_),(_,_),(7,.fl (.own 24) 3 (flatten (map T_Path.enc v9))),(8,.fl (.own 24) 3 (flatten (map T_Path.enc v10)))]) (by kernel_rfl) rfl rfl ⟨zp rfl (op_loadA _ _ _ _ _ _ _ underlying53 rfl sz53 rfl rfl (zl rfl) rfl rfl),zp rfl (op_loadA _ _ _ _ _ _ _ underlying36 rfl sz36 rfl rfl (zl rfl) rfl rfl),zp rfl (op_callG _ _ 114 21 _ _ rfl call21 rfl rfl (fun _ h => h) (ok_tally_Far mx ((T_Config.mk (([(c.Domains.getD 0 z0),(c.Domains.getD 1 z0)] : List ByteArray)) c.Expiry c.User c.Secret c.Log c.Held)) 0 ((T_Mail.mk (T_Path.mk m.From.Null m.From.Local m.From.Domain) m.To m.Body m.Quiet m.Helo m.At)) _ hv9) rfl rfl),zp rfl (op_loadA _ _ _ _ _ _ _ underlying53 rfl sz53 rfl rfl (zl rfl) rfl rfl),zp rfl (op_loadA _ _ _ _ _ _ _ underlying36 rfl sz36 rfl rfl (zl rfl) rfl rfl),zp rfl (op_callG _ _ 114 21 _ _ rfl call21 rfl rfl (fun _ h => h) (ok_tally_Far mx ((T_Config.mk (([(c.Domains.getD 0 z0),(c.Domains.getD 1 z0)] : List ByteArray)) c.Expiry c.User c.Secret c.Log c.Held)) 1 ((T_Mail.mk (T_Path.mk m.From.Null m.From.Local m.From.Domain) m.To m.Body m.Quiet m.Helo m.At)) _ hv10) rfl rfl),zp rfl (op_assign_take _ _ _ _ rfl),zp rfl (op_assign_take _ _ _ _ rfl),zz⟩ ?_
    refine pt_then ?_
    refine zgg hn [_,_,_,_,_,_,(9,vi 0)] [0,1,2,3,4,5] [0,1,2,3,4,5,6] [zq [] 6 9] [(_,_),(_,_),(_,_),(_,_),(_,_),(_,_),(_,_)] rfl ⟨z2 rfl,zz⟩ ?_
    refine ht_seq ?_
    refine zgg hn [_,_,_,_,_,_,_,(10,vi 0)] [0,1,2,3,4,5,6] [0,1,2,3,4,5,6,7] [zq [] 7 10] [(_,_),(_,_),(_,_),(_,_),(_,_),(_,_),(_,_),(_,_)] rfl ⟨z2 rfl,zz⟩ ?_
    refine ht_loopS h (fun ((s51,s52) : Int × Int) => [(2,vi i),(114,.glob (GL mx)),(3,.box 53 [vs (c.Domains.getD 0 z0),vs (c.Domains.getD 1 z0),vi c.Expiry,vs c.User,vs c.Secret,vi c.Log,vb c.Held]),(4,.box 36 [vb m.From.Null,vs m.From.Local,vs m.From.Domain,.fl .shr 3 (flatten (map T_Path.enc m.To)),fb m.Body,vb m.Quiet,vs m.Helo,vi m.At]),(7,.fl (.own 24) 3 (flatten (map T_Path.enc v9))),(8,.fl (.own 24) 3 (flatten (map T_Path.enc v10))),(9,vi s51),(10,vi s52)]) (fun (s68 : Int) => [(2,vi i),(114,.glob (GL mx)),(3,.box 53 [vs (c.Domains.getD 0 z0),vs (c.Domains.getD 1 z0),vi c.Expiry,vs c.User,vs c.Secret,vi c.Log,vb c.Held]),(4,.box 36 [vb m.From.Null,vs m.From.Local,vs m.From.Domain,.fl .shr 3 (flatten (map T_Path.enc m.To)),fb m.Body,vb m.Quiet,vs m.Helo,vi m.At]),(7,.fl (.own 24) 3 (flatten (map T_Path.enc v9))),(8,.fl (.own 24) 3 (flatten (map T_Path.enc v10))),(9,vi s68)]) ?_ ?_
    ·rintro s68 h
     refine pt_then (ht_seq ?_)
     refine ht_seq ?_
     refine ht_joinS h (fun (s93 : Bool) => [(114,.glob (GL mx)),(3,.box 53 [vs (c.Domains.getD 0 z0),vs (c.Domains.getD 1 z0),vi c.Expiry,vs c.User,vs c.Secret,vi c.Log,vb c.Held]),(7,.fl (.own 24) 3 (flatten (map T_Path.enc v9))),(8,.fl (.own 24) 3 (flatten (map T_Path.enc v10))),(82,vb s93)]) ?_ ?_
     ·rintro s93 h
      refine pt_then ?_
      refine ht_cond _ rfl (fun hb97 => ?_) (fun hb97 => ?_)
      ·have h := cond_t hb97 h
       refine zgg hn [_,_,_,_,_,(6,vb false)] [0,1,2,3,4] [0,5] [zq [] 5 6] [(_,_),(_,_)] rfl ⟨z2 rfl,zz⟩ ?_
       refine ht_ret ?_
       refine pt_pick [1] (by kernel_rfl) (es' := [(_,_)]) rfl ?_
       refine pt_r_then ?_
       obtain rfl := zi h
       exact pt_ret hio rfl (.tmp _ _ .nil) rfl rfl
      ·have h := cond_f hb97 h
       refine ht_skip ?_
       refine pt_then (ht_seq ?_)
       refine zgg hn [_,_,_,_,_,(11,vi 0)] [0,1,2,3,4] [0,1,2,3,5] [zq [] 5 11] [(_,_),(_,_),(_,_),(_,_),(_,_)] rfl ⟨z2 rfl,zz⟩ ?_
       refine ht_loopS h (fun (s107 : Int) => [(114,.glob (GL mx)),(3,.box 53 [vs (c.Domains.getD 0 z0),vs (c.Domains.getD 1 z0),vi c.Expiry,vs c.User,vs c.Secret,vi c.Log,vb c.Held]),(7,.fl (.own 24) 3 (flatten (map T_Path.enc v9))),(8,.fl (.own 24) 3 (flatten (map T_Path.enc v10))),(11,vi s107)]) (fun (() : Unit) => [(114,.glob (GL mx)),(3,.box 53 [vs (c.Domains.getD 0 z0),vs (c.Domains.getD 1 z0),vi c.Expiry,vs c.User,vs c.Secret,vi c.Log,vb c.Held]),(8,.fl (.own 24) 3 (flatten (map T_Path.enc v10)))]) ?_ ?_
       ·rintro ⟨⟩ h
        refine pt_then (ht_seq ?_)
        refine zgg hn [_,_,_,(12,vi 0)] [0,1,2] [0,1,2,3] [zq [] 3 12] [(_,_),(_,_),(_,_),(_,_)] rfl ⟨z2 rfl,zz⟩ ?_
        refine ht_loopS h (fun (s127 : Int) => [(114,.glob (GL mx)),(3,.box 53 [vs (c.Domains.getD 0 z0),vs (c.Domains.getD 1 z0),vi c.Expiry,vs c.User,vs c.Secret,vi c.Log,vb c.Held]),(8,.fl (.own 24) 3 (flatten (map T_Path.enc v10))),(12,vi s127)]) (fun (() : Unit) => [(114,.glob (GL mx))]) ?_ ?_
        ·rintro ⟨⟩ h
         refine pt_then (ht_seq ?_)
         obtain ⟨v138, hv138, h⟩ := zn h
         refine zg hn [_,(113,vb v138),(6,vb v138)] [0] [0,2] [zq [0] 1 113,zq [1] 2 6] [(_,_),(_,_)] rfl ⟨zp rfl (op_callG _ _ 114 12 _ _ rfl call12 rfl rfl (fun _ h => h) (ok_wherrylaw26_wakes mx  _ hv138) rfl rfl),z2 rfl,zz⟩ ?_
         refine pt_then (ht_ret ?_)
         refine pt_pick [1] (by kernel_rfl) (es' := [(_,_)]) rfl ?_
         obtain rfl := zi h
         exact pt_ret hio rfl (.tmp _ _ .nil) rfl rfl
        ·rintro u130 hl131 hr132 s127 rr135 h ho133
         refine ht_seq ?_
         refine zgg hn [_,_,_,_,(98,vi s127),(99,.same (.slot 8)),(100,vi (v10.length : Int)),(101,vb (decide (s127 < (v10.length : Int))))] [0,1,2,3] [0,1,2,3,7] [zq [3] 4 98,zq [2] 5 99,zq [5,2] 6 100,zq [4,6] 7 101] [(_,_),(_,_),(_,_),(_,_),(_,_)] rfl ⟨z1 rfl,z1 rfl,zp rfl (op_len_fl _ _ _ underlying34 rfl (by decide) (flat_len T_Path.len _)),z4 rfl rfl,zz⟩ ?_
         refine ht_cond _ rfl (fun hb136 => ?_) (fun hb136 => ?_)
         ·have h := cond_t hb136 h
          refine ht_skip ?_
          refine pt_then (ht_seq ?_)
          refine ht_block ?_
          refine ht_seq ?_
          obtain ⟨v119, hv119, h⟩ := zn h
          obtain ⟨v120, hv120, h⟩ := zn h
          obtain ⟨v121, hv121, h⟩ := zn h
          refine ht_anyR (by kernel_rfl) hn (El := [_,_,_,_,_,(104,.same (.slot 8)),(105,vi s127),(106,.eref (.slot 8) (v119 * 3)),(107,.agg [vb v120.Null,vs v120.Local,vs v120.Domain]),(108,.ptr 3 0),(109,.ptr 3 0),(110,vs (c.Domains.getD 0 z0)),(111,vb v121),(112,vb (!v121))]) (init := [0,1,2,3,4]) (fin := [0,1,2,3,13]) (sps := [zq [2] 5 104,zq [3] 6 105,zq [5,2,6] 7 106,zq [7,2] 8 107,zq [1] 9 108,zq [9,1] 10 109,zq [10,1] 11 110,zq [8,11] 12 111,zq [12] 13 112]) (es' := [(_,_),(_,_),(_,_),(_,_),(112,vb (!v121))]) (by kernel_rfl) rfl rfl ⟨z1 rfl,z1 rfl,zp rfl (op_ix _ _ _ _ _ _ _ _ underlying34 sz24 (by decide) rfl rfl rfl (ix_ok hv119).1 (flat_lt T_Path.len (ix_ok hv119).2) rfl),zp rfl (op_load_eA _ _ _ _ _ _ _ underlying24 rfl sz24 rfl rfl (flat_get T_Path.len hv120) rfl (by decide)),zp rfl (oF underlying53 rfl sz51),zp rfl (op_indexAddr_a _ _ _ _ 2 3 0 0 1 underlying51 sz9 rfl rfl (by decide) (by decide)),zp rfl (oL underlying9 rfl),zp rfl (op_call _ _ 22 _ _ rfl call22 rfl (ok_wherryref11_At v120 ((c.Domains.getD 0 z0)) _ hv121) rfl rfl),zp rfl (op_un _ _ _ _ rfl rfl),zz⟩ ?_
          refine pt_then ?_
          refine ht_cond _ rfl (fun hb137 => ?_) (fun hb137 => ?_)
          ·have h := cond_t hb137 h
           refine zgg hn [_,_,_,_,_,(6,vb false)] [0,1,2,3,4] [0,5] [zq [] 5 6] [(_,_),(_,_)] rfl ⟨z2 rfl,zz⟩ ?_
           refine ht_ret ?_
           refine pt_pick [1] (by kernel_rfl) (es' := [(_,_)]) rfl ?_
           refine pt_r_in ?_
           refine pt_r_then ?_
           refine pt_r_then ?_
           refine pt_r_in ?_
           refine pt_r_then ?_
           have h := hr132 _ (ho133 _ (zi h).symm).symm
           obtain rfl := zi h
           exact pt_ret hio rfl (.tmp _ _ .nil) rfl rfl
          ·have h := cond_f hb137 h
           refine ht_skip ?_
           refine pt_inb ?_
           refine pt_then ?_
           obtain ⟨v123, hv123, h⟩ := zn h
           refine zg hn [_,_,_,_,_,(102,vi s127),(103,vi v123),(12,vi v123)] [0,1,2,3,4] [0,1,2,7] [zq [3] 5 102,zq [5] 6 103,⟨[6],[3],[7],[(.slot 12)]⟩] [(_,_),(_,_),(_,_),(_,_)] rfl ⟨z1 rfl,zp rfl (oB rfl (ibind (f := int .i64) (Option.some.inj hv123))),zp rfl (LOp.drop [_] (op_assign _ _ _ _ rfl rfl)),zz⟩ ?_
           exact pt_next _ (zi h).symm rfl
         ·have h := cond_f hb136 h
          refine ht_exit ?_
          refine pt_x_then ?_
          refine pt_x_then ?_
          refine pt_x_in ?_
          refine pt_pick [0] (by kernel_rfl) (es' := [(_,_)]) rfl ?_
          exact hl131 _ (ho133 _ (zi h).symm).symm
       ·rintro u110 hl111 hr112 s107 rr115 h ho113
        refine ht_seq ?_
        refine zgg hn [_,_,_,_,_,(83,vi s107),(84,.same (.slot 7)),(85,vi (v9.length : Int)),(86,vb (decide (s107 < (v9.length : Int))))] [0,1,2,3,4] [0,1,2,3,4,8] [zq [4] 5 83,zq [2] 6 84,zq [6,2] 7 85,zq [5,7] 8 86] [(_,_),(_,_),(_,_),(_,_),(_,_),(_,_)] rfl ⟨z1 rfl,z1 rfl,zp rfl (op_len_fl _ _ _ underlying34 rfl (by decide) (flat_len T_Path.len _)),z4 rfl rfl,zz⟩ ?_
        refine ht_cond _ rfl (fun hb116 => ?_) (fun hb116 => ?_)
        ·have h := cond_t hb116 h
         refine ht_skip ?_
         refine pt_then (ht_seq ?_)
         refine ht_block ?_
         refine ht_seq ?_
         obtain ⟨v99, hv99, h⟩ := zn h
         obtain ⟨v100, hv100, h⟩ := zn h
         obtain ⟨v101, hv101, h⟩ := zn h
         refine ht_anyR (by kernel_rfl) hn (El := (_ :: _ :: _ :: _ :: _ :: _ :: (89,.same (.slot 7)) :: (90,vi s107) :: (91,.eref (.slot 7) (v99 * 3)) :: (92,.agg [vb v100.Null,vs v100.Local,vs v100.Domain]) :: (93,.ptr 3 0) :: (94,.ptr 3 1) :: (95,vs (c.Domains.getD 1 z0)) :: (96,vb v101) :: (97,vb (!v101)) :: [])) (init := [0,1,2,3,4,5]) (fin := [0,1,2,3,4,14]) (sps := [zq [2] 6 89,zq [4] 7 90,zq [6,2,7] 8 91,zq [8,2] 9 92,zq [1] 10 93,zq [10,1] 11 94,zq [11,1] 12 95,zq [9,12] 13 96,zq [13] 14 97]) (es' := [(_,_),(_,_),(_,_),(_,_),(_,_),(97,vb (!v101))]) (by kernel_rfl) rfl rfl ⟨z1 rfl,z1 rfl,zp rfl (op_ix _ _ _ _ _ _ _ _ underlying34 sz24 (by decide) rfl rfl rfl (ix_ok hv99).1 (flat_lt T_Path.len (ix_ok hv99).2) rfl),zp rfl (op_load_eA _ _ _ _ _ _ _ underlying24 rfl sz24 rfl rfl (flat_get T_Path.len hv100) rfl (by decide)),zp rfl (oF underlying53 rfl sz51),zp rfl (op_indexAddr_a _ _ _ _ 2 3 0 1 1 underlying51 sz9 rfl rfl (by decide) (by decide)),zp rfl (oL underlying9 rfl),zp rfl (op_call _ _ 22 _ _ rfl call22 rfl (ok_wherryref11_At v100 ((c.Domains.getD 1 z0)) _ hv101) rfl rfl),zp rfl (op_un _ _ _ _ rfl rfl),zz⟩ ?_
         refine pt_then ?_
         refine ht_cond _ rfl (fun hb117 => ?_) (fun hb117 => ?_)
         ·have h := cond_t hb117 h
          refine zgg hn [_,_,_,_,_,_,(6,vb false)] [0,1,2,3,4,5] [0,6] [zq [] 6 6] [(_,_),(_,_)] rfl ⟨z2 rfl,zz⟩ ?_
          refine ht_ret ?_
          refine pt_pick [1] (by kernel_rfl) (es' := [(_,_)]) rfl ?_
          refine pt_r_in ?_
          refine pt_r_then ?_
          refine pt_r_then ?_
          refine pt_r_in ?_
          refine pt_r_then ?_
          have h := hr112 _ (ho113 _ (zi h).symm).symm
          obtain rfl := zi h
          exact pt_ret hio rfl (.tmp _ _ .nil) rfl rfl
         ·have h := cond_f hb117 h
          refine ht_skip ?_
          refine pt_inb ?_
          refine pt_then ?_
          obtain ⟨v103, hv103, h⟩ := zn h
          refine zg hn [_,_,_,_,_,_,(87,vi s107),(88,vi v103),(11,vi v103)] [0,1,2,3,4,5] [0,1,2,3,8] [zq [4] 6 87,zq [6] 7 88,⟨[7],[4],[8],[(.slot 11)]⟩] [(_,_),(_,_),(_,_),(_,_),(_,_)] rfl ⟨z1 rfl,zp rfl (oB rfl (ibind (f := int .i64) (Option.some.inj hv103))),zp rfl (LOp.drop [_] (op_assign _ _ _ _ rfl rfl)),zz⟩ ?_
          exact pt_next _ (zi h).symm rfl
        ·have h := cond_f hb116 h
         refine ht_exit ?_
         refine pt_x_then ?_
         refine pt_x_then ?_
         refine pt_x_in ?_
         refine pt_pick [0,1,3] (by kernel_rfl) (es' := [(_,_),(_,_),(_,_)]) rfl ?_
         exact hl111 _ (ho113 _ (zi h).symm).symm
     ·intro u94 h hl95 hr96
      obtain ⟨v90, hv90, h⟩ := zn h
      refine cond_some h (fun hg10_7 h => ?_) (fun hg10_7 h => ?_)
      ·refine zg hn (_::_::_::_::_::_::_::(60,.same (.slot 7))::(61,vi (v9.length : Int))::(62,.same (.slot 8))::(63,vi (v10.length : Int))::(64,vi v90)::(65,vi s68)::(66,vb (v90 != s68))::(67,vb true)::(68,.v undef)::(69,.v undef)::(70,.v undef)::(71,.v undef)::(72,.v undef)::(73,.v undef)::(74,.v undef)::(75,.v undef)::(76,.v undef)::(77,.v undef)::(78,.v undef)::(79,.v undef)::(80,.v undef)::(81,.v undef)::(82,vb true)::[]) [0,1,2,3,4,5,6] [1,2,4,5,29] (zq [4] 7 60::zq [7,4] 8 61::zq [5] 9 62::zq [9,5] 10 63::zq [8,10] 11 64::zq [6] 12 65::zq [11,12] 13 66::zq [13] 14 67::zq [14] 15 68::zq [14] 16 69::zq [14] 17 70::zq [17] 18 71::zq [17] 19 72::zq [14] 20 73::zq [14] 21 74::zq [21] 22 75::zq [21] 23 76::zq [21] 24 77::zq [21] 25 78::zq [21] 26 79::zq [21] 27 80::zq [14] 28 81::zq [14] 29 82::[]) [(_,_),(_,_),(_,_),(_,_),(_,_)] rfl ⟨z1 rfl,zp rfl (op_len_fl _ _ _ underlying34 rfl (by decide) (flat_len T_Path.len _)),z1 rfl,zp rfl (op_len_fl _ _ _ underlying34 rfl (by decide) (flat_len T_Path.len _)),zp rfl (oB rfl (ibind (f := int .i64) (Option.some.inj hv90))),z1 rfl,z4 rfl rfl,z8 hg10_7 rfl,zf rfl,zf rfl,zf rfl,zu' rfl,zu' rfl,zf rfl,zf rfl,zu' rfl,zu' rfl,zu' rfl,zu' rfl,zu' rfl,zu' rfl,zf rfl,z3 true rfl,zz⟩ ?_
       exact hl95 _ (zi h).symm
      ·refine cond_some h (fun hg10_10 h => ?_) (fun hg10_10 h => ?_)
       ·obtain ⟨v91, hv91, h⟩ := zn h
        refine zg hn (_::_::_::_::_::_::_::(60,.same (.slot 7))::(61,vi (v9.length : Int))::(62,.same (.slot 8))::(63,vi (v10.length : Int))::(64,vi v90)::(65,vi s68)::(66,vb (v90 != s68))::(67,vb false)::(68,vi i)::(69,vb (decide (i < 0)))::(70,vb true)::(71,.v undef)::(72,.v undef)::(73,vb true)::(74,vb true)::(75,.agg [vs (c.Domains.getD 0 z0),vs (c.Domains.getD 1 z0),vi c.Expiry,vs c.User,vs c.Secret,vi c.Log,vb c.Held])::(76,vi i)::(77,.agg [vb m.From.Null,vs m.From.Local,vs m.From.Domain,.fl .shr 3 (flatten (map T_Path.enc m.To)),fb m.Body,vb m.Quiet,vs m.Helo,vi m.At])::(78,.fl (.own 24) 3 (flatten (map T_Path.enc v91)))::(79,vi (v91.length : Int))::(80,vb ((v91.length : Int) != 0))::(81,vb ((v91.length : Int) != 0))::(82,vb ((v91.length : Int) != 0))::[]) [0,1,2,3,4,5,6] [1,2,4,5,29] (zq [4] 7 60::zq [7,4] 8 61::zq [5] 9 62::zq [9,5] 10 63::zq [8,10] 11 64::zq [6] 12 65::zq [11,12] 13 66::zq [13] 14 67::zq [14,0] 15 68::zq [14,15] 16 69::zq [14,16] 17 70::zq [17] 18 71::zq [17] 19 72::zq [14,17] 20 73::zq [14,20] 21 74::zq [21,2] 22 75::zq [21,0] 23 76::zq [21,3] 24 77::zq [21,22,23,24,1] 25 78::zq [21,25] 26 79::zq [21,26] 27 80::zq [14,21,27] 28 81::zq [14,28] 29 82::[]) [(_,_),(_,_),(_,_),(_,_),(_,_)] rfl ⟨z1 rfl,zp rfl (op_len_fl _ _ _ underlying34 rfl (by decide) (flat_len T_Path.len _)),z1 rfl,zp rfl (op_len_fl _ _ _ underlying34 rfl (by decide) (flat_len T_Path.len _)),zp rfl (oB rfl (ibind (f := int .i64) (Option.some.inj hv90))),z1 rfl,z4 rfl rfl,z8 hg10_7 rfl,zr' rfl (oM rfl),zr' rfl (oB rfl rfl),zr' rfl (op_move _ _ _ _ (zb hg10_10) rfl),zf rfl,zf rfl,zr' rfl (op_pick _ _ true _ rfl rfl),zr' rfl (oM rfl),zr' rfl (op_loadA _ _ _ _ _ _ _ underlying53 rfl sz53 rfl rfl (zl rfl) rfl rfl),zr' rfl (oM rfl),zr' rfl (op_loadA _ _ _ _ _ _ _ underlying36 rfl sz36 rfl rfl (zl rfl) rfl rfl),zr' rfl (op_callG _ _ 114 21 _ _ rfl call21 rfl rfl (fun _ h => h) (ok_tally_Far mx ((T_Config.mk (([(c.Domains.getD 0 (⟨#[]⟩ : ByteArray)), (c.Domains.getD 1 (⟨#[]⟩ : ByteArray))] : List ByteArray)) c.Expiry c.User c.Secret c.Log c.Held)) i ((T_Mail.mk (T_Path.mk m.From.Null m.From.Local m.From.Domain) m.To m.Body m.Quiet m.Helo m.At)) _ hv91) rfl rfl),zr' rfl (op_len_fl _ _ _ underlying34 rfl (by decide) (flat_len T_Path.len _)),zr' rfl (oB rfl rfl),zr' rfl (op_pick _ _ true _ rfl rfl),z3 false rfl,zz⟩ ?_
        exact hl95 _ (zi h).symm
       ·refine cond_some h (fun hg10_14 h => ?_) (fun hg10_14 h => ?_)
        ·obtain ⟨v92, hv92, h⟩ := zn h
         refine zg hn (_::_::_::_::_::_::_::(60,.same (.slot 7))::(61,vi (v9.length : Int))::(62,.same (.slot 8))::(63,vi (v10.length : Int))::(64,vi v90)::(65,vi s68)::(66,vb (v90 != s68))::(67,vb false)::(68,vi i)::(69,vb (decide (i < 0)))::(70,vb false)::(71,vi i)::(72,vb (decide (1 < i)))::(73,vb (decide (1 < i)))::(74,vb true)::(75,.agg [vs (c.Domains.getD 0 z0),vs (c.Domains.getD 1 z0),vi c.Expiry,vs c.User,vs c.Secret,vi c.Log,vb c.Held])::(76,vi i)::(77,.agg [vb m.From.Null,vs m.From.Local,vs m.From.Domain,.fl .shr 3 (flatten (map T_Path.enc m.To)),fb m.Body,vb m.Quiet,vs m.Helo,vi m.At])::(78,.fl (.own 24) 3 (flatten (map T_Path.enc v92)))::(79,vi (v92.length : Int))::(80,vb ((v92.length : Int) != 0))::(81,vb ((v92.length : Int) != 0))::(82,vb ((v92.length : Int) != 0))::[]) [0,1,2,3,4,5,6] [1,2,4,5,29] (zq [4] 7 60::zq [7,4] 8 61::zq [5] 9 62::zq [9,5] 10 63::zq [8,10] 11 64::zq [6] 12 65::zq [11,12] 13 66::zq [13] 14 67::zq [14,0] 15 68::zq [14,15] 16 69::zq [14,16] 17 70::zq [17,0] 18 71::zq [17,18] 19 72::zq [14,17,19] 20 73::zq [14,20] 21 74::zq [21,2] 22 75::zq [21,0] 23 76::zq [21,3] 24 77::zq [21,22,23,24,1] 25 78::zq [21,25] 26 79::zq [21,26] 27 80::zq [14,21,27] 28 81::zq [14,28] 29 82::[]) [(_,_),(_,_),(_,_),(_,_),(_,_)] rfl ⟨z1 rfl,zp rfl (op_len_fl _ _ _ underlying34 rfl (by decide) (flat_len T_Path.len _)),z1 rfl,zp rfl (op_len_fl _ _ _ underlying34 rfl (by decide) (flat_len T_Path.len _)),zp rfl (oB rfl (ibind (f := int .i64) (Option.some.inj hv90))),z1 rfl,z4 rfl rfl,z8 hg10_7 rfl,zr' rfl (oM rfl),zr' rfl (oB rfl rfl),zr' rfl (op_move _ _ _ _ (zb hg10_10) rfl),zr' rfl (oM rfl),zr' rfl (oB rfl rfl),zr' rfl (op_pick _ _ false _ rfl rfl),zr' rfl (op_move _ _ _ _ (zb hg10_14) rfl),zr' rfl (op_loadA _ _ _ _ _ _ _ underlying53 rfl sz53 rfl rfl (zl rfl) rfl rfl),zr' rfl (oM rfl),zr' rfl (op_loadA _ _ _ _ _ _ _ underlying36 rfl sz36 rfl rfl (zl rfl) rfl rfl),zr' rfl (op_callG _ _ 114 21 _ _ rfl call21 rfl rfl (fun _ h => h) (ok_tally_Far mx ((T_Config.mk (([(c.Domains.getD 0 (⟨#[]⟩ : ByteArray)), (c.Domains.getD 1 (⟨#[]⟩ : ByteArray))] : List ByteArray)) c.Expiry c.User c.Secret c.Log c.Held)) i ((T_Mail.mk (T_Path.mk m.From.Null m.From.Local m.From.Domain) m.To m.Body m.Quiet m.Helo m.At)) _ hv92) rfl rfl),zr' rfl (op_len_fl _ _ _ underlying34 rfl (by decide) (flat_len T_Path.len _)),zr' rfl (oB rfl rfl),zr' rfl (op_pick _ _ true _ rfl rfl),z3 false rfl,zz⟩ ?_
         exact hl95 _ (zi h).symm
        ·refine zg hn (_::_::_::_::_::_::_::(60,.same (.slot 7))::(61,vi (v9.length : Int))::(62,.same (.slot 8))::(63,vi (v10.length : Int))::(64,vi v90)::(65,vi s68)::(66,vb (v90 != s68))::(67,vb false)::(68,vi i)::(69,vb (decide (i < 0)))::(70,vb false)::(71,vi i)::(72,vb (decide (1 < i)))::(73,vb (decide (1 < i)))::(74,vb false)::(75,.v undef)::(76,.v undef)::(77,.v undef)::(78,.v undef)::(79,.v undef)::(80,.v undef)::(81,vb false)::(82,vb false)::[]) [0,1,2,3,4,5,6] [1,2,4,5,29] (zq [4] 7 60::zq [7,4] 8 61::zq [5] 9 62::zq [9,5] 10 63::zq [8,10] 11 64::zq [6] 12 65::zq [11,12] 13 66::zq [13] 14 67::zq [14,0] 15 68::zq [14,15] 16 69::zq [14,16] 17 70::zq [17,0] 18 71::zq [17,18] 19 72::zq [14,17,19] 20 73::zq [14,20] 21 74::zq [21] 22 75::zq [21] 23 76::zq [21] 24 77::zq [21] 25 78::zq [21] 26 79::zq [21] 27 80::zq [14,21] 28 81::zq [14,28] 29 82::[]) [(_,_),(_,_),(_,_),(_,_),(_,_)] rfl ⟨z1 rfl,zp rfl (op_len_fl _ _ _ underlying34 rfl (by decide) (flat_len T_Path.len _)),z1 rfl,zp rfl (op_len_fl _ _ _ underlying34 rfl (by decide) (flat_len T_Path.len _)),zp rfl (oB rfl (ibind (f := int .i64) (Option.some.inj hv90))),z1 rfl,z4 rfl rfl,z8 hg10_7 rfl,zr' rfl (oM rfl),zr' rfl (oB rfl rfl),zr' rfl (op_move _ _ _ _ (zb hg10_10) rfl),zr' rfl (oM rfl),zr' rfl (oB rfl rfl),zr' rfl (op_pick _ _ false _ rfl rfl),zr' rfl (op_move _ _ _ _ (zb hg10_14) rfl),zt rfl,zt rfl,zt rfl,zt rfl,zt rfl,zt rfl,zr' rfl (op_pick _ _ false _ rfl rfl),z3 false rfl,zz⟩ ?_
         exact hl95 _ (zi h).symm
    ·rintro u69 hl70 hr71 ⟨s51, s52⟩ rr74 h ho72
     refine ht_seq ?_
     refine zgg hn [_,_,_,_,_,_,_,_,(31,vi s52),(32,.ptr 4 3),(33,.fl .shr 3 (flatten (map T_Path.enc m.To))),(34,vi (m.To.length : Int)),(35,vb (decide (s52 < (m.To.length : Int))))] [0,1,2,3,4,5,6,7] [0,1,2,3,4,5,6,7,12] [zq [7] 8 31,zq [3] 9 32,zq [9,3] 10 33,zq [10] 11 34,zq [8,11] 12 35] [(_,_),(_,_),(_,_),(_,_),(_,_),(_,_),(_,_),(_,_),(_,_)] rfl ⟨z1 rfl,zp rfl (oF underlying36 rfl sz34),zp rfl (oL underlying34 rfl),zp rfl (op_len_fl _ _ _ underlying34 rfl (by decide) (flat_len T_Path.len _)),z4 rfl rfl,zz⟩ ?_
     refine ht_cond _ rfl (fun hb75 => ?_) (fun hb75 => ?_)
     ·have h := cond_t hb75 h
      refine ht_skip ?_
      refine pt_then (ht_seq ?_)
      refine ht_joinS h (fun (s81 : Int) => [(2,vi i),(114,.glob (GL mx)),(3,.box 53 [vs (c.Domains.getD 0 z0),vs (c.Domains.getD 1 z0),vi c.Expiry,vs c.User,vs c.Secret,vi c.Log,vb c.Held]),(4,.box 36 [vb m.From.Null,vs m.From.Local,vs m.From.Domain,.fl .shr 3 (flatten (map T_Path.enc m.To)),fb m.Body,vb m.Quiet,vs m.Helo,vi m.At]),(7,.fl (.own 24) 3 (flatten (map T_Path.enc v9))),(8,.fl (.own 24) 3 (flatten (map T_Path.enc v10))),(10,vi s52),(9,vi s81)]) ?_ ?_
      ·rintro s81 h
       refine pt_then ?_
       obtain ⟨v33, hv33, h⟩ := zn h
       refine zg hn [_,_,_,_,_,_,_,_,(36,vi s52),(37,vi v33),(10,vi v33)] [0,1,2,3,4,5,6,7] [0,1,2,3,4,5,7,10] [zq [6] 8 36,zq [8] 9 37,⟨[9],[6],[10],[(.slot 10)]⟩] [(_,_),(_,_),(_,_),(_,_),(_,_),(_,_),(_,_),(_,_)] rfl ⟨z1 rfl,zp rfl (oB rfl (ibind (f := int .i64) (Option.some.inj hv33))),zp rfl (LOp.drop [_] (op_assign _ _ _ _ rfl rfl)),zz⟩ ?_
       exact pt_next _ (zi h).symm rfl
      ·intro u82 h hl83 hr84
       refine ht_block ?_
       refine ht_seq ?_
       refine ht_joinS h (fun (s85 : Bool) => [(2,vi i),(114,.glob (GL mx)),(3,.box 53 [vs (c.Domains.getD 0 z0),vs (c.Domains.getD 1 z0),vi c.Expiry,vs c.User,vs c.Secret,vi c.Log,vb c.Held]),(4,.box 36 [vb m.From.Null,vs m.From.Local,vs m.From.Domain,.fl .shr 3 (flatten (map T_Path.enc m.To)),fb m.Body,vb m.Quiet,vs m.Helo,vi m.At]),(7,.fl (.own 24) 3 (flatten (map T_Path.enc v9))),(8,.fl (.own 24) 3 (flatten (map T_Path.enc v10))),(9,vi s51),(10,vi s52),(57,vb s85)]) ?_ ?_
       ·rintro s85 h
        refine pt_then ?_
        refine ht_cond _ rfl (fun hb89 => ?_) (fun hb89 => ?_)
        ·have h := cond_t hb89 h
         obtain ⟨v23, hv23, h⟩ := zn h
         refine zg hn [_,_,_,_,_,_,_,_,_,(58,vi s51),(59,vi v23),(9,vi v23)] [0,1,2,3,4,5,6,7,8] [0,1,2,3,4,5,7,11] [zq [6] 9 58,zq [9] 10 59,⟨[10],[6],[11],[(.slot 9)]⟩] [(_,_),(_,_),(_,_),(_,_),(_,_),(_,_),(_,_),(_,_)] rfl ⟨z1 rfl,zp rfl (oB rfl (ibind (f := int .i64) (Option.some.inj hv23))),zp rfl (LOp.drop [_] (op_assign _ _ _ _ rfl rfl)),zz⟩ ?_
         refine pt_inb ?_
         exact hl83 _ (zi h).symm
        ·have h := cond_f hb89 h
         refine ht_skip ?_
         refine pt_inb ?_
         refine pt_pick [0,1,2,3,4,5,7,6] (by kernel_rfl) (es' := [(_,_),(_,_),(_,_),(_,_),(_,_),(_,_),(_,_),(_,_)]) rfl ?_
         exact hl83 _ (zi h).symm
       ·intro u86 h hl87 hr88
        obtain ⟨v12, hv12, h⟩ := zn h
        obtain ⟨v13, hv13, h⟩ := zn h
        obtain ⟨v14, hv14, h⟩ := zn h
        refine cond_some h (fun hg8_9 h => ?_) (fun hg8_9 h => ?_)
        ·refine ht_anyR (by kernel_rfl) hn (El := (_ :: _ :: _ :: _ :: _ :: _ :: _ :: _ :: _ :: (38,.ptr 4 3) :: (39,.fl .shr 3 (flatten (map T_Path.enc m.To))) :: (40,vi s52) :: (41,.eref (.slot 39) (v12 * 3)) :: (42,.agg [vb v13.Null,vs v13.Local,vs v13.Domain]) :: (43,.ptr 3 0) :: (44,.ptr 3 0) :: (45,vs (c.Domains.getD 0 z0)) :: (46,vb v14) :: (47,vb true) :: (48,.v undef) :: (49,.v undef) :: (50,.v undef) :: (51,.v undef) :: (52,.v undef) :: (53,.v undef) :: (54,.v undef) :: (55,.v undef) :: (56,.v undef) :: (57,vb true) :: [])) (init := [0,1,2,3,4,5,6,7,8]) (fin := [0,1,2,3,4,5,6,7,28]) (sps := (zq [3] 9 38 :: zq [9,3] 10 39 :: zq [7] 11 40 :: zq [10,11] 12 41 :: zq [12,10] 13 42 :: zq [2] 14 43 :: zq [14,2] 15 44 :: zq [15,2] 16 45 :: zq [13,16] 17 46 :: zq [17] 18 47 :: zq [18] 19 48 :: zq [18] 20 49 :: zq [18] 21 50 :: zq [18] 22 51 :: zq [18] 23 52 :: zq [18] 24 53 :: zq [18] 25 54 :: zq [18] 26 55 :: zq [18] 27 56 :: zq [18] 28 57 :: [])) (es' := [(_,_),(_,_),(_,_),(_,_),(_,_),(_,_),(_,_),(_,_),(57,vb true)]) (by kernel_rfl) rfl rfl ⟨zp rfl (oF underlying36 rfl sz34),zp rfl (oL underlying34 rfl),z1 rfl,zp rfl (op_ix _ _ _ _ _ _ _ _ underlying34 sz24 (by decide) rfl rfl rfl (ix_ok hv12).1 (flat_lt T_Path.len (ix_ok hv12).2) rfl),zp rfl (op_load_eA _ _ _ _ _ _ _ underlying24 rfl sz24 rfl rfl (flat_get T_Path.len hv13) rfl (by decide)),zp rfl (oF underlying53 rfl sz51),zp rfl (op_indexAddr_a _ _ _ _ 2 3 0 0 1 underlying51 sz9 rfl rfl (by decide) (by decide)),zp rfl (oL underlying9 rfl),zp rfl (op_call _ _ 22 _ _ rfl call22 rfl (ok_wherryref11_At v13 ((c.Domains.getD 0 z0)) _ hv14) rfl rfl),z8 hg8_9 rfl,zf rfl,zf rfl,zf rfl,zf rfl,zf rfl,zf rfl,zf rfl,zf rfl,zf rfl,z3 true rfl,zz⟩ ?_
         exact hl87 _ (zi h).symm
        ·obtain ⟨v15, hv15, h⟩ := zn h
         obtain ⟨v16, hv16, h⟩ := zn h
         obtain ⟨v17, hv17, h⟩ := zn h
         refine ht_anyR (by kernel_rfl) hn (El := (_ :: _ :: _ :: _ :: _ :: _ :: _ :: _ :: _ :: (38,.ptr 4 3) :: (39,.fl .shr 3 (flatten (map T_Path.enc m.To))) :: (40,vi s52) :: (41,.eref (.slot 39) (v12 * 3)) :: (42,.agg [vb v13.Null,vs v13.Local,vs v13.Domain]) :: (43,.ptr 3 0) :: (44,.ptr 3 0) :: (45,vs (c.Domains.getD 0 z0)) :: (46,vb v14) :: (47,vb false) :: (48,.ptr 4 3) :: (49,.fl .shr 3 (flatten (map T_Path.enc m.To))) :: (50,vi s52) :: (51,.eref (.slot 49) (v15 * 3)) :: (52,.agg [vb v16.Null,vs v16.Local,vs v16.Domain]) :: (53,.ptr 3 0) :: (54,.ptr 3 1) :: (55,vs (c.Domains.getD 1 z0)) :: (56,vb v17) :: (57,vb v17) :: [])) (init := [0,1,2,3,4,5,6,7,8]) (fin := [0,1,2,3,4,5,6,7,28]) (sps := (zq [3] 9 38 :: zq [9,3] 10 39 :: zq [7] 11 40 :: zq [10,11] 12 41 :: zq [12,10] 13 42 :: zq [2] 14 43 :: zq [14,2] 15 44 :: zq [15,2] 16 45 :: zq [13,16] 17 46 :: zq [17] 18 47 :: zq [18,3] 19 48 :: zq [18,19,3] 20 49 :: zq [18,7] 21 50 :: zq [18,20,21] 22 51 :: zq [18,22,20] 23 52 :: zq [18,2] 24 53 :: zq [18,24,2] 25 54 :: zq [18,25,2] 26 55 :: zq [18,23,26] 27 56 :: zq [18,27] 28 57 :: [])) (es' := [(_,_),(_,_),(_,_),(_,_),(_,_),(_,_),(_,_),(_,_),(57,vb v17)]) (by kernel_rfl) rfl rfl ⟨zp rfl (oF underlying36 rfl sz34),zp rfl (oL underlying34 rfl),z1 rfl,zp rfl (op_ix _ _ _ _ _ _ _ _ underlying34 sz24 (by decide) rfl rfl rfl (ix_ok hv12).1 (flat_lt T_Path.len (ix_ok hv12).2) rfl),zp rfl (op_load_eA _ _ _ _ _ _ _ underlying24 rfl sz24 rfl rfl (flat_get T_Path.len hv13) rfl (by decide)),zp rfl (oF underlying53 rfl sz51),zp rfl (op_indexAddr_a _ _ _ _ 2 3 0 0 1 underlying51 sz9 rfl rfl (by decide) (by decide)),zp rfl (oL underlying9 rfl),zp rfl (op_call _ _ 22 _ _ rfl call22 rfl (ok_wherryref11_At v13 ((c.Domains.getD 0 z0)) _ hv14) rfl rfl),z8 hg8_9 rfl,zr' rfl (oF underlying36 rfl sz34),zr' rfl (oL underlying34 rfl),zr' rfl (oM rfl),zr' rfl (op_ix _ _ _ _ _ _ _ _ underlying34 sz24 (by decide) rfl rfl rfl (ix_ok hv15).1 (flat_lt T_Path.len (ix_ok hv15).2) rfl),zr' rfl (op_load_eA _ _ _ _ _ _ _ underlying24 rfl sz24 rfl rfl (flat_get T_Path.len hv16) rfl (by decide)),zr' rfl (oF underlying53 rfl sz51),zr' rfl (op_indexAddr_a _ _ _ _ 2 3 0 1 1 underlying51 sz9 rfl rfl (by decide) (by decide)),zr' rfl (oL underlying9 rfl),zr' rfl (op_call _ _ 22 _ _ rfl call22 rfl (ok_wherryref11_At v16 ((c.Domains.getD 1 z0)) _ hv17) rfl rfl),z3 false rfl,zz⟩ ?_
         exact hl87 _ (zi h).symm
     ·have h := cond_f hb75 h
      refine ht_exit ?_
      refine pt_x_then ?_
      refine pt_x_then ?_
      refine pt_x_in ?_
      refine pt_pick [0,1,2,3,4,5,6] (by kernel_rfl) (es' := [(_,_),(_,_),(_,_),(_,_),(_,_),(_,_),(_,_)]) rfl ?_
      exact hl70 _ (ho72 _ (zi h).symm).symm
  ·intro u5 h hl6 hr7
   obtain ⟨v1, hv1, h⟩ := zn h
   refine cond_some h (fun hg1_2 h => ?_) (fun hg1_2 h => ?_)
   ·refine zg hn (_::_::_::_::(13,.agg [vs (c.Domains.getD 0 z0),vs (c.Domains.getD 1 z0),vi c.Expiry,vs c.User,vs c.Secret,vi c.Log,vb c.Held])::(14,vb v1)::(15,vb true)::(16,.v undef)::(17,.v undef)::(18,.v undef)::(19,vb true)::(20,vb true)::(21,.v undef)::(22,.v undef)::(23,.v undef)::(24,vb true)::[]) [0,1,2,3] [0,1,2,3,15] [zq [2] 4 13,zq [4] 5 14,zq [5] 6 15,zq [6] 7 16,zq [6] 8 17,zq [6] 9 18,zq [6] 10 19,zq [10] 11 20,zq [11] 12 21,zq [11] 13 22,zq [11] 14 23,zq [11] 15 24] [(_,_),(_,_),(_,_),(_,_),(_,_)] rfl ⟨zp rfl (op_loadA _ _ _ _ _ _ _ underlying53 rfl sz53 rfl rfl (zl rfl) rfl rfl),zp rfl (op_call _ _ 18 _ _ rfl call18 rfl (ok_wherrylaw23_HeavyConfig ((T_Config.mk (([(c.Domains.getD 0 (⟨#[]⟩ : ByteArray)), (c.Domains.getD 1 (⟨#[]⟩ : ByteArray))] : List ByteArray)) c.Expiry c.User c.Secret c.Log c.Held)) _ hv1) rfl rfl),z8 hg1_2 rfl,zf rfl,zf rfl,zf rfl,z3 true rfl,z1 rfl,zf rfl,zf rfl,zf rfl,z3 true rfl,zz⟩ ?_
    exact hl6 _ (zi h).symm
   ·obtain ⟨v2, hv2, h⟩ := zn h
    refine cond_some h (fun hg1_7 h => ?_) (fun hg1_7 h => ?_)
    ·refine zg hn (_::_::_::_::(13,.agg [vs (c.Domains.getD 0 z0),vs (c.Domains.getD 1 z0),vi c.Expiry,vs c.User,vs c.Secret,vi c.Log,vb c.Held])::(14,vb v1)::(15,vb false)::(16,.agg [vb m.From.Null,vs m.From.Local,vs m.From.Domain,.fl .shr 3 (flatten (map T_Path.enc m.To)),fb m.Body,vb m.Quiet,vs m.Helo,vi m.At])::(17,.fr (.own 36) true 8 (flatten (map T_Mail.ienc [(T_Mail.mk (T_Path.mk m.From.Null m.From.Local m.From.Domain) m.To m.Body m.Quiet m.Helo m.At)])))::(18,vb v2)::(19,vb v2)::(20,vb true)::(21,.v undef)::(22,.v undef)::(23,.v undef)::(24,vb true)::[]) [0,1,2,3] [0,1,2,3,15] [zq [2] 4 13,zq [4] 5 14,zq [5] 6 15,zq [6,3] 7 16,zq [6,7] 8 17,zq [6,8] 9 18,zq [6,9] 10 19,zq [10] 11 20,zq [11] 12 21,zq [11] 13 22,zq [11] 14 23,zq [11] 15 24] [(_,_),(_,_),(_,_),(_,_),(_,_)] rfl ⟨zp rfl (op_loadA _ _ _ _ _ _ _ underlying53 rfl sz53 rfl rfl (zl rfl) rfl rfl),zp rfl (op_call _ _ 18 _ _ rfl call18 rfl (ok_wherrylaw23_HeavyConfig ((T_Config.mk (([(c.Domains.getD 0 (⟨#[]⟩ : ByteArray)), (c.Domains.getD 1 (⟨#[]⟩ : ByteArray))] : List ByteArray)) c.Expiry c.User c.Secret c.Log c.Held)) _ hv1) rfl rfl),z8 hg1_2 rfl,zr' rfl (op_loadA _ _ _ _ _ _ _ underlying36 rfl sz36 rfl rfl (zl rfl) rfl rfl),zr' rfl (op_build1_fr _ _ _ 8 (.agg #[.bool false, .string ByteArray.empty, .string ByteArray.empty, .slice none 0 0, .slice none 0 0, .bool false, .string ByteArray.empty, .int .i64 0]) true _ _ underlying56 sz36 zr36 rfl rfl (.cons (.v _) (.cons (.v _) (.cons (.v _) (.cons (.shr _ _ rfl rfl) (.cons (.shr _ _ rfl rfl) (.cons (.v _) (.cons (.v _) (.cons (.v _) (.nil))))))))) rfl (by decide) (by decide)),zr' rfl (op_call _ _ 19 _ _ rfl call19 rfl (ok_wherrylaw17_Heavy [(T_Mail.mk (T_Path.mk m.From.Null m.From.Local m.From.Domain) m.To m.Body m.Quiet m.Helo m.At)] _ hv2) rfl rfl),z3 false rfl,z8 hg1_7 rfl,zf rfl,zf rfl,zf rfl,z3 true rfl,zz⟩ ?_
     exact hl6 _ (zi h).symm
    ·obtain ⟨v3, hv3, h⟩ := zn h
     refine zg hn (_::_::_::_::(13,.agg [vs (c.Domains.getD 0 z0),vs (c.Domains.getD 1 z0),vi c.Expiry,vs c.User,vs c.Secret,vi c.Log,vb c.Held])::(14,vb v1)::(15,vb false)::(16,.agg [vb m.From.Null,vs m.From.Local,vs m.From.Domain,.fl .shr 3 (flatten (map T_Path.enc m.To)),fb m.Body,vb m.Quiet,vs m.Helo,vi m.At])::(17,.fr (.own 36) true 8 (flatten (map T_Mail.ienc [(T_Mail.mk (T_Path.mk m.From.Null m.From.Local m.From.Domain) m.To m.Body m.Quiet m.Helo m.At)])))::(18,vb v2)::(19,vb v2)::(20,vb false)::(21,.agg [vs (c.Domains.getD 0 z0),vs (c.Domains.getD 1 z0),vi c.Expiry,vs c.User,vs c.Secret,vi c.Log,vb c.Held])::(22,vb v3)::(23,vb (!v3))::(24,vb (!v3))::[]) [0,1,2,3] [0,1,2,3,15] [zq [2] 4 13,zq [4] 5 14,zq [5] 6 15,zq [6,3] 7 16,zq [6,7] 8 17,zq [6,8] 9 18,zq [6,9] 10 19,zq [10] 11 20,zq [11,2] 12 21,zq [11,12] 13 22,zq [11,13] 14 23,zq [11,14] 15 24] [(_,_),(_,_),(_,_),(_,_),(_,_)] rfl ⟨zp rfl (op_loadA _ _ _ _ _ _ _ underlying53 rfl sz53 rfl rfl (zl rfl) rfl rfl),zp rfl (op_call _ _ 18 _ _ rfl call18 rfl (ok_wherrylaw23_HeavyConfig ((T_Config.mk (([(c.Domains.getD 0 (⟨#[]⟩ : ByteArray)), (c.Domains.getD 1 (⟨#[]⟩ : ByteArray))] : List ByteArray)) c.Expiry c.User c.Secret c.Log c.Held)) _ hv1) rfl rfl),z8 hg1_2 rfl,zr' rfl (op_loadA _ _ _ _ _ _ _ underlying36 rfl sz36 rfl rfl (zl rfl) rfl rfl),zr' rfl (op_build1_fr _ _ _ 8 (.agg #[.bool false, .string ByteArray.empty, .string ByteArray.empty, .slice none 0 0, .slice none 0 0, .bool false, .string ByteArray.empty, .int .i64 0]) true _ _ underlying56 sz36 zr36 rfl rfl (.cons (.v _) (.cons (.v _) (.cons (.v _) (.cons (.shr _ _ rfl rfl) (.cons (.shr _ _ rfl rfl) (.cons (.v _) (.cons (.v _) (.cons (.v _) (.nil))))))))) rfl (by decide) (by decide)),zr' rfl (op_call _ _ 19 _ _ rfl call19 rfl (ok_wherrylaw17_Heavy [(T_Mail.mk (T_Path.mk m.From.Null m.From.Local m.From.Domain) m.To m.Body m.Quiet m.Helo m.At)] _ hv2) rfl rfl),z3 false rfl,z8 hg1_7 rfl,zr' rfl (op_loadA _ _ _ _ _ _ _ underlying53 rfl sz53 rfl rfl (zl rfl) rfl rfl),zr' rfl (op_call _ _ 20 _ _ rfl call20 rfl (ok_wherryref23_Config ((T_Config.mk (([(c.Domains.getD 0 (⟨#[]⟩ : ByteArray)), (c.Domains.getD 1 (⟨#[]⟩ : ByteArray))] : List ByteArray)) c.Expiry c.User c.Secret c.Log c.Held)) _ hv3) rfl rfl),zr' rfl (op_un _ _ _ _ rfl rfl),z3 false rfl,zz⟩ ?_
     exact hl6 _ (zi h).symm

end Go.Proofs.YtofbofdggabfiaaDoor
