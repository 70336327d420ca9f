/-
  The model's runs are what is told in Lean.
-/
import Derived.Test.YthfmdofkkkpbkaaGreatDoorProg
import Derived.KernelRfl
import Derived.Test.YthfmdofkkkpbkaaGreatDoorShelf
import Derived.Test.YthfmdofkkkpbkaaGreatDoorOkc2
set_option linter.unusedVariables false
set_option linter.unusedSimpArgs false
set_option maxHeartbeats 1000000
namespace Go.Proofs.YthfmdofkkkpbkaaGreatDoor
open Go.Abs Go.Abs.Sh Tryz
theorem ok_wherryref11_Verb (s : ByteArray) (r : (T_Cmd × Int)) (h : Sh.wherryref11_Verb s = some r) : FnOK Tryz.prog 7 [.v (.string s)] (.tup [.agg [.v (.int .i64 r.1.Kind), .v (.string r.1.Text), .v (.bool r.1.Path.Null), .v (.string r.1.Path.Local), .v (.string r.1.Path.Domain), .fl (.own 47) 2 (List.flatten (List.map T_Param.enc r.1.Params))], .v (.int .i64 r.2)]) := by
  unfold Sh.wherryref11_Verb at h
  refine fn_ok func7 rfl (zl rfl) rfl rfl fun g0 hn hio => ?_
  refine zgg hn [_,(2,.box 26 [vi 0,vs z0,vb false,vs z0,vs z0,.v (.slice none 0 0)]),(3,vi 0)] [0] [0,1] [zq [] 1 2,zq [] 2 3] [(_,_),(_,_)] rfl ⟨zp rfl (op_alloc _ _ zr26),z2 rfl,zz⟩ ?_
  refine ht_seq ?_
  refine zgg hn [_,_,(13,vs s),(14,vi (s.size : Int)),(15,vb (decide (510 < (s.size : Int))))] [0,1] [0,1,4] [zq [0] 2 13,zq [2] 3 14,zq [3] 4 15] [(_,_),(_,_),(_,_)] rfl ⟨z1 rfl,zp rfl (oN underlying9 rfl),z4 rfl rfl,zz⟩ ?_
  refine ht_cond _ rfl (fun hb1 => ?_) (fun hb1 => ?_)
  ·have h := cond_t hb1 h
   refine zgg hn [_,_,_,(16,.agg [vi 0,vs z0,vb false,vs z0,vs z0,.v (.slice none 0 0)]),(2,.box 26 [vi 0,vs z0,vb false,vs z0,vs z0,.v (.slice none 0 0)]),(3,vi 500)] [0,1,2] [4,5] [zq [] 3 16,⟨[],[3,1],[4],[.cell 2 0,.cell 2 1,.cell 2 2,.cell 2 3,.cell 2 4,.cell 2 5]⟩,zq [] 5 3] [(_,_),(_,_)] rfl ⟨zp rfl (op_build _ _ _ _ [1, 1, 3, 1] _ _ underlying26 zr26 (fs26 _ underlying26) Src.nil rfl rfl rfl),zp rfl (op_store_self _ _ _ 16 2 6 sz26 rfl rfl rfl rfl rfl (.eq _ (.eq _ (.eq _ (.eq _ (.eq _ (.eq _ (.nil _))))))) rfl),z2 rfl,zz⟩ ?_
   refine ht_ret ?_
   refine pt_sub (fs := [(2, .box 26 [.v (.int .i64 0), .v (.string (⟨#[]⟩ : ByteArray)), .v (.bool false), .v (.string (⟨#[]⟩ : ByteArray)), .v (.string (⟨#[]⟩ : ByteArray)), .fl (.own 47) 2 (List.flatten (List.map T_Param.enc []))]), (3, .v (.int .i64 500))]) (.box _ _ (subs_cons (sub_refl _) (subs_cons (sub_refl _) (subs_cons (sub_refl _) (subs_cons (sub_refl _) (subs_cons (sub_refl _) (subs_cons (sub_nil 47 2) (subs_nil))))))) rfl (.same _ .nil)) ?_
   refine pt_r_then ?_
   obtain rfl := Option.some.inj h
   exact pt_ret hio rfl (.cellA _ _ _ _ underlying26 rfl sz26 (.tmp _ _ .nil)) rfl rfl
  ·have h := cond_f hb1 h
   refine ht_skip ?_
   refine pt_then (ht_seq ?_)
   refine zgg hn [_,_,_,(4,vi 0)] [0,1,2] [0,1,3] [zq [] 3 4] [(_,_),(_,_),(_,_)] rfl ⟨z2 rfl,zz⟩ ?_
   refine ht_loopS h (fun (s18 : Int) => [(0, .v (.string s)), (2, .box 26 [.v (.int .i64 0), .v (.string (⟨#[]⟩ : ByteArray)), .v (.bool false), .v (.string (⟨#[]⟩ : ByteArray)), .v (.string (⟨#[]⟩ : ByteArray)), .v (.slice none 0 0)]), (4, .v (.int .i64 s18))]) (fun (() : Unit) => [(0, .v (.string s)), (2, .box 26 [.v (.int .i64 0), .v (.string (⟨#[]⟩ : ByteArray)), .v (.bool false), .v (.string (⟨#[]⟩ : ByteArray)), .v (.string (⟨#[]⟩ : ByteArray)), .v (.slice none 0 0)])]) ?_ ?_
   ·rintro ⟨⟩ h
    refine pt_then (ht_seq ?_)
    obtain ⟨v37, hv37, h⟩ := bind_some h
    refine zg hn [_,_,(34,vs s),(35,vs v37),(5,vs v37)] [0,1] [0,1,4] [zq [0] 2 34,zq [2] 3 35,zq [3] 4 5] [(_,_),(_,_),(_,_)] rfl ⟨z1 rfl,zp rfl (op_call _ _ 22 _ _ rfl call22 rfl (ok_wherryref11_first s _ hv37) rfl rfl),z2 rfl,zz⟩ ?_
    refine pt_then (ht_seq ?_)
    refine ht_seq ?_
    obtain ⟨v38, hv38, h⟩ := bind_some h
    refine zg hn [_,_,_,(36,vs v37),(37,.fl (.own 9) 1 (List.map Value.string ([(⟨#[101,104,108,111]⟩ : ByteArray),(⟨#[104,101,108,111]⟩ : ByteArray),(⟨#[109,97,105,108]⟩ : ByteArray),(⟨#[114,99,112,116]⟩ : ByteArray),(⟨#[100,97,116,97]⟩ : ByteArray),(⟨#[114,115,101,116]⟩ : ByteArray),(⟨#[113,117,105,116]⟩ : ByteArray),(⟨#[110,111,111,112]⟩ : ByteArray),(⟨#[118,114,102,121]⟩ : ByteArray),(⟨#[101,116,114,110]⟩ : ByteArray),(⟨#[97,117,116,104]⟩ : ByteArray),(⟨#[97,116,114,110]⟩ : ByteArray)]))),(38,vb v38),(39,vb (!v38))] [0,1,2] [0,1,2,6] [zq [2] 3 36,zq [] 4 37,zq [3,4] 5 38,zq [5] 6 39] [(_,_),(_,_),(_,_),(_,_)] rfl ⟨z1 rfl,zp rfl (op_buildSlice _ _ 1 (.string ByteArray.empty) (List.map Value.string ([(⟨#[101, 104, 108, 111]⟩ : ByteArray), (⟨#[104, 101, 108, 111]⟩ : ByteArray), (⟨#[109, 97, 105, 108]⟩ : ByteArray), (⟨#[114, 99, 112, 116]⟩ : ByteArray), (⟨#[100, 97, 116, 97]⟩ : ByteArray), (⟨#[114, 115, 101, 116]⟩ : ByteArray), (⟨#[113, 117, 105, 116]⟩ : ByteArray), (⟨#[110, 111, 111, 112]⟩ : ByteArray), (⟨#[118, 114, 102, 121]⟩ : ByteArray), (⟨#[101, 116, 114, 110]⟩ : ByteArray), (⟨#[97, 117, 116, 104]⟩ : ByteArray), (⟨#[97, 116, 114, 110]⟩ : ByteArray)])) [(0, .string (⟨#[101, 104, 108, 111]⟩ : ByteArray)), (1, .string (⟨#[104, 101, 108, 111]⟩ : ByteArray)), (2, .string (⟨#[109, 97, 105, 108]⟩ : ByteArray)), (3, .string (⟨#[114, 99, 112, 116]⟩ : ByteArray)), (4, .string (⟨#[100, 97, 116, 97]⟩ : ByteArray)), (5, .string (⟨#[114, 115, 101, 116]⟩ : ByteArray)), (6, .string (⟨#[113, 117, 105, 116]⟩ : ByteArray)), (7, .string (⟨#[110, 111, 111, 112]⟩ : ByteArray)), (8, .string (⟨#[118, 114, 102, 121]⟩ : ByteArray)), (9, .string (⟨#[101, 116, 114, 110]⟩ : ByteArray)), (10, .string (⟨#[97, 117, 116, 104]⟩ : ByteArray)), (11, .string (⟨#[97, 116, 114, 110]⟩ : ByteArray))] underlying43 sz9 zr9 (fun _ V w o a hv hes => by simp only [List.map_toArray, List.map_cons, List.map_nil]; try rfl) (litfill (by simp [Instr.fill, Value.cells]; rfl) (by simp [List.range, List.range.loop] <;> rfl)) (by simp [Value.oneCell']) rfl (by decide) (by decide) (by decide)),zp rfl (op_call _ _ 23 _ _ rfl call23 rfl (ok_wherryref11_among v37 ([(⟨#[101, 104, 108, 111]⟩ : ByteArray), (⟨#[104, 101, 108, 111]⟩ : ByteArray), (⟨#[109, 97, 105, 108]⟩ : ByteArray), (⟨#[114, 99, 112, 116]⟩ : ByteArray), (⟨#[100, 97, 116, 97]⟩ : ByteArray), (⟨#[114, 115, 101, 116]⟩ : ByteArray), (⟨#[113, 117, 105, 116]⟩ : ByteArray), (⟨#[110, 111, 111, 112]⟩ : ByteArray), (⟨#[118, 114, 102, 121]⟩ : ByteArray), (⟨#[101, 116, 114, 110]⟩ : ByteArray), (⟨#[97, 117, 116, 104]⟩ : ByteArray), (⟨#[97, 116, 114, 110]⟩ : ByteArray)]) _ hv38) rfl rfl),zp rfl (op_un _ _ _ _ rfl rfl),zz⟩ ?_
    refine pt_then ?_
    refine ht_cond _ rfl (fun hb39 => ?_) (fun hb39 => ?_)
    ·have h := cond_t hb39 h
     refine zgg hn [_,_,_,_,(40,.agg [vi 0,vs z0,vb false,vs z0,vs z0,.v (.slice none 0 0)]),(2,.box 26 [vi 0,vs z0,vb false,vs z0,vs z0,.v (.slice none 0 0)]),(3,vi 500)] [0,1,2,3] [5,6] [zq [] 4 40,⟨[],[4,1],[5],[.cell 2 0,.cell 2 1,.cell 2 2,.cell 2 3,.cell 2 4,.cell 2 5]⟩,zq [] 6 3] [(_,_),(_,_)] rfl ⟨zp rfl (op_build _ _ _ _ [1, 1, 3, 1] _ _ underlying26 zr26 (fs26 _ underlying26) Src.nil rfl rfl rfl),zp rfl (op_store_self _ _ _ 40 2 6 sz26 rfl rfl rfl rfl rfl (.eq _ (.eq _ (.eq _ (.eq _ (.eq _ (.eq _ (.nil _))))))) rfl),z2 rfl,zz⟩ ?_
     refine ht_ret ?_
     refine pt_sub (fs := [(2, .box 26 [.v (.int .i64 0), .v (.string (⟨#[]⟩ : ByteArray)), .v (.bool false), .v (.string (⟨#[]⟩ : ByteArray)), .v (.string (⟨#[]⟩ : ByteArray)), .fl (.own 47) 2 (List.flatten (List.map T_Param.enc []))]), (3, .v (.int .i64 500))]) (.box _ _ (subs_cons (sub_refl _) (subs_cons (sub_refl _) (subs_cons (sub_refl _) (subs_cons (sub_refl _) (subs_cons (sub_refl _) (subs_cons (sub_nil 47 2) (subs_nil))))))) rfl (.same _ .nil)) ?_
     refine pt_r_then ?_
     obtain rfl := Option.some.inj h
     exact pt_ret hio rfl (.cellA _ _ _ _ underlying26 rfl sz26 (.tmp _ _ .nil)) rfl rfl
    ·have h := cond_f hb39 h
     refine ht_skip ?_
     refine pt_then ?_
     refine zgg hn [_,_,_,_,(41,vs v37),(42,vi (v37.size : Int)),(43,vs s),(44,vi (s.size : Int)),(45,vb ((v37.size : Int) == (s.size : Int))),(6,vb ((v37.size : Int) == (s.size : Int)))] [0,1,2,3] [0,1,2,9] [zq [2] 4 41,zq [4] 5 42,zq [0] 6 43,zq [6] 7 44,zq [5,7] 8 45,zq [8] 9 6] [(_,_),(_,_),(_,_),(_,_)] rfl ⟨z1 rfl,zp rfl (oN underlying9 rfl),z1 rfl,zp rfl (oN underlying9 rfl),z4 rfl rfl,z2 rfl,zz⟩ ?_
     refine zgg hn [_,_,_,_,(7,vs z0)] [0,1,2,3] [0,1,2,3,4] [zq [] 4 7] [(_,_),(_,_),(_,_),(_,_),(_,_)] rfl ⟨z2 rfl,zz⟩ ?_
     refine ht_seq ?_
     refine ht_joinS h (fun (s43 : ByteArray) => [(2, .box 26 [.v (.int .i64 0), .v (.string (⟨#[]⟩ : ByteArray)), .v (.bool false), .v (.string (⟨#[]⟩ : ByteArray)), .v (.string (⟨#[]⟩ : ByteArray)), .v (.slice none 0 0)]), (5, .v (.string v37)), (6, .v (.bool (((v37.size : Int) == (s.size : Int))))), (7, .v (.string s43))]) ?_ ?_
     ·rintro s43 h
      refine pt_then (ht_seq ?_)
      refine ht_joinS h (fun (() : Unit) => [(2, .box 26 [.v (.int .i64 0), .v (.string (⟨#[]⟩ : ByteArray)), .v (.bool false), .v (.string (⟨#[]⟩ : ByteArray)), .v (.string (⟨#[]⟩ : ByteArray)), .v (.slice none 0 0)])]) ?_ ?_
      ·rintro ⟨⟩ h
       refine pt_then ?_
       refine zgg hn [_,(148,.agg [vi 0,vs z0,vb false,vs z0,vs z0,.v (.slice none 0 0)]),(2,.box 26 [vi 0,vs z0,vb false,vs z0,vs z0,.v (.slice none 0 0)]),(3,vi 501)] [0] [2,3] [zq [] 1 148,⟨[],[1,0],[2],[.cell 2 0,.cell 2 1,.cell 2 2,.cell 2 3,.cell 2 4,.cell 2 5]⟩,zq [] 3 3] [(_,_),(_,_)] rfl ⟨zp rfl (op_build _ _ _ _ [1, 1, 3, 1] _ _ underlying26 zr26 (fs26 _ underlying26) Src.nil rfl rfl rfl),zp rfl (op_store_self _ _ _ 148 2 6 sz26 rfl rfl rfl rfl rfl (.eq _ (.eq _ (.eq _ (.eq _ (.eq _ (.eq _ (.nil _))))))) rfl),z2 rfl,zz⟩ ?_
       refine ht_ret ?_
       refine pt_sub (fs := [(2, .box 26 [.v (.int .i64 0), .v (.string (⟨#[]⟩ : ByteArray)), .v (.bool false), .v (.string (⟨#[]⟩ : ByteArray)), .v (.string (⟨#[]⟩ : ByteArray)), .fl (.own 47) 2 (List.flatten (List.map T_Param.enc []))]), (3, .v (.int .i64 501))]) (.box _ _ (subs_cons (sub_refl _) (subs_cons (sub_refl _) (subs_cons (sub_refl _) (subs_cons (sub_refl _) (subs_cons (sub_refl _) (subs_cons (sub_nil 47 2) (subs_nil))))))) rfl (.same _ .nil)) ?_
       obtain rfl := Option.some.inj h
       exact pt_ret hio rfl (.cellA _ _ _ _ underlying26 rfl sz26 (.tmp _ _ .nil)) rfl rfl
      ·intro u182 h hl183 hr184
       refine zgg hn [_,_,_,_,(53,vs v37)] [0,1,2,3] [0,1,2,3,4] [zq [1] 4 53] [(_,_),(_,_),(_,_),(_,_),(_,_)] rfl ⟨z1 rfl,zz⟩ ?_
       refine ht_joinS h (fun (() : Unit) => [(2, .box 26 [.v (.int .i64 0), .v (.string (⟨#[]⟩ : ByteArray)), .v (.bool false), .v (.string (⟨#[]⟩ : ByteArray)), .v (.string (⟨#[]⟩ : ByteArray)), .v (.slice none 0 0)])]) ?_ ?_
       ·rintro ⟨⟩ h
        exact hl183 _ (Option.some.inj h).symm
       ·intro u246 h hl247 hr248
        refine ht_block ?_
        refine ht_seq ?_
        refine ht_joinS h (fun (s250 : Bool) => [(2, .box 26 [.v (.int .i64 0), .v (.string (⟨#[]⟩ : ByteArray)), .v (.bool false), .v (.string (⟨#[]⟩ : ByteArray)), .v (.string (⟨#[]⟩ : ByteArray)), .v (.slice none 0 0)]), (5, .v (.string v37)), (6, .v (.bool (((v37.size : Int) == (s.size : Int))))), (7, .v (.string s43)), (53, .v (.string v37)), (54, .v (.bool s250))]) ?_ ?_
        ·rintro s250 h
         refine pt_then ?_
         refine ht_cond _ rfl (fun hb255 => ?_) (fun hb255 => ?_)
         ·have h := cond_t hb255 h
          refine ht_seq ?_
          refine ht_joinS h (fun (s256 : Bool) => [(2, .box 26 [.v (.int .i64 0), .v (.string (⟨#[]⟩ : ByteArray)), .v (.bool false), .v (.string (⟨#[]⟩ : ByteArray)), .v (.string (⟨#[]⟩ : ByteArray)), .v (.slice none 0 0)]), (7, .v (.string s43)), (62, .v (.bool s256))]) ?_ ?_
          ·rintro s256 h
           refine pt_then ?_
           refine ht_cond _ rfl (fun hb260 => ?_) (fun hb260 => ?_)
           ·have h := cond_t hb260 h
            refine zgg hn [_,_,_,(63,vs s43),(64,.agg [vi 1,vs s43,vb false,vs z0,vs z0,.v (.slice none 0 0)]),(2,.box 26 [vi 1,vs s43,vb false,vs z0,vs z0,.v (.slice none 0 0)]),(3,vi 0)] [0,1,2] [5,6] [zq [1] 3 63,zq [3] 4 64,⟨[4],[0],[5],[.cell 2 0,.cell 2 1,.cell 2 2,.cell 2 3,.cell 2 4,.cell 2 5]⟩,zq [] 6 3] [(_,_),(_,_)] rfl ⟨z1 rfl,zp rfl (op_build _ _ _ _ [1, 1, 3, 1] _ _ underlying26 zr26 (fs26 _ underlying26) (.copy _ (.copy _ Src.nil)) rfl rfl rfl),zp rfl (oS sz26 rfl),z2 rfl,zz⟩ ?_
            refine ht_ret ?_
            refine pt_sub (fs := [(2, .box 26 [.v (.int .i64 1), .v (.string s43), .v (.bool false), .v (.string (⟨#[]⟩ : ByteArray)), .v (.string (⟨#[]⟩ : ByteArray)), .fl (.own 47) 2 (List.flatten (List.map T_Param.enc []))]), (3, .v (.int .i64 0))]) (.box _ _ (subs_cons (sub_refl _) (subs_cons (sub_refl _) (subs_cons (sub_refl _) (subs_cons (sub_refl _) (subs_cons (sub_refl _) (subs_cons (sub_nil 47 2) (subs_nil))))))) rfl (.same _ .nil)) ?_
            refine pt_r_in ?_
            refine pt_r_then ?_
            have h := hr248 _ (Option.some.inj h).symm
            have h := hr184 _ (Option.some.inj h).symm
            obtain rfl := Option.some.inj h
            exact pt_ret hio rfl (.cellA _ _ _ _ underlying26 rfl sz26 (.tmp _ _ .nil)) rfl rfl
           ·have h := cond_f hb260 h
            refine ht_skip ?_
            refine pt_inb ?_
            refine pt_pick [0] (by kernel_rfl) (es' := [(_,_)]) rfl ?_
            exact hl247 _ (Option.some.inj h).symm
          ·intro u257 h hl258 hr259
           refine cond_some h (fun hg18_2 h => ?_) (fun hg18_2 h => ?_)
           ·obtain ⟨v55, hv55, h⟩ := bind_some h
            refine zg hn [_,_,_,_,_,_,(57,vb ((v37.size : Int) == (s.size : Int))),(58,vb (!(((v37.size : Int) == (s.size : Int))))),(59,vb true),(60,vs s43),(61,vb v55),(62,vb v55)] [0,1,2,3,4,5] [0,3,11] [zq [2] 6 57,zq [6] 7 58,zq [7] 8 59,zq [8,3] 9 60,zq [8,9] 10 61,zq [8,10] 11 62] [(_,_),(_,_),(_,_)] rfl ⟨z1 rfl,zp rfl (op_un _ _ _ _ rfl rfl),z8 hg18_2 rfl,zr' rfl (oM rfl),zr' rfl (op_call _ _ 24 _ _ rfl call24 rfl (ok_wherryref11_Domain s43 _ hv55) rfl rfl),z3 true rfl,zz⟩ ?_
            exact hl258 _ (Option.some.inj h).symm
           ·refine zg hn [_,_,_,_,_,_,(57,vb ((v37.size : Int) == (s.size : Int))),(58,vb (!(((v37.size : Int) == (s.size : Int))))),(59,vb false),(60,.v undef),(61,.v undef),(62,vb false)] [0,1,2,3,4,5] [0,3,11] [zq [2] 6 57,zq [6] 7 58,zq [7] 8 59,zq [8] 9 60,zq [8] 10 61,zq [8] 11 62] [(_,_),(_,_),(_,_)] rfl ⟨z1 rfl,zp rfl (op_un _ _ _ _ rfl rfl),z8 hg18_2 rfl,zt rfl,zt rfl,z3 false rfl,zz⟩ ?_
            exact hl258 _ (Option.some.inj h).symm
         ·have h := cond_f hb255 h
          refine zgg hn [_,_,_,_,_,_,(66,vb (v37.toList == (⟨#[109,97,105,108]⟩ : ByteArray).toList)),(65,vb (v37.toList == (⟨#[109,97,105,108]⟩ : ByteArray).toList))] [0,1,2,3,4,5] [0,1,2,3,4,7] [zq [4] 6 66,zq [6] 7 65] [(_,_),(_,_),(_,_),(_,_),(_,_),(_,_)] rfl ⟨z4 rfl rfl,z2 rfl,zz⟩ ?_
          refine ht_cond _ rfl (fun hb261 => ?_) (fun hb261 => ?_)
          ·have h := cond_t hb261 h
           refine ht_seq ?_
           obtain ⟨v62, hv62, h⟩ := bind_some h
           refine zg hn [_,_,_,_,_,_,(68,vs s43),(69,.tup [vs v62.1,vb v62.2]),(67,.tup [vs v62.1,vb v62.2]),(70,vs v62.1),(71,vb v62.2),(8,vs v62.1),(9,vb v62.2)] [0,1,2,3,4,5] [0,2,11,12] [zq [3] 6 68,zq [6] 7 69,⟨[],[7],[8],[(.slot 67)]⟩,zq [8] 9 70,zq [8] 10 71,zq [9] 11 8,zq [10] 12 9] [(_,_),(_,_),(_,_),(_,_)] rfl ⟨z1 rfl,zp rfl (op_call _ _ 25 _ _ rfl call25 rfl (ok_wherryref11_begins s43 (⟨#[102, 114, 111, 109, 58]⟩ : ByteArray) _ hv62) rfl rfl),zp rfl (op_move_take _ _ _ _ rfl),zp rfl (oE rfl),zp rfl (oE rfl),z2 rfl,z2 rfl,zz⟩ ?_
           refine pt_then (ht_seq ?_)
           refine ht_joinS h (fun (s262 : Bool) => [(2, .box 26 [.v (.int .i64 0), .v (.string (⟨#[]⟩ : ByteArray)), .v (.bool false), .v (.string (⟨#[]⟩ : ByteArray)), .v (.string (⟨#[]⟩ : ByteArray)), .v (.slice none 0 0)]), (8, .v (.string v62.1)), (76, .v (.bool s262))]) ?_ ?_
           ·rintro s262 h
            refine pt_then ?_
            refine ht_cond _ rfl (fun hb266 => ?_) (fun hb266 => ?_)
            ·have h := cond_t hb266 h
             refine ht_seq ?_
             obtain ⟨v68, hv68, h⟩ := bind_some h
             refine zg hn [_,_,_,(77,vs v62.1),(78,.tup [.agg [vi v68.1.Kind,vs v68.1.Text,vb v68.1.Path.Null,vs v68.1.Path.Local,vs v68.1.Path.Domain,.fl (.own 47) 2 (List.flatten (List.map T_Param.enc v68.1.Params))],vi v68.2]),(79,.agg [vi v68.1.Kind,vs v68.1.Text,vb v68.1.Path.Null,vs v68.1.Path.Local,vs v68.1.Path.Domain,.fl (.own 47) 2 (List.flatten (List.map T_Param.enc v68.1.Params))]),(78,.tup [.any,vi v68.2]),(80,vi v68.2),(2,.box 26 [vi v68.1.Kind,vs v68.1.Text,vb v68.1.Path.Null,vs v68.1.Path.Local,vs v68.1.Path.Domain,.fl (.own 47) 2 (List.flatten (List.map T_Param.enc v68.1.Params))]),(3,vi v68.2)] [0,1,2] [8,9] [zq [1] 3 77,zq [3] 4 78,⟨[],[4],[6,5],[(.slot 79)]⟩,zq [6] 7 80,⟨[],[5,0],[8],[.cell 2 0,.cell 2 1,.cell 2 2,.cell 2 3,.cell 2 4,.cell 2 5]⟩,zq [7] 9 3] [(_,_),(_,_)] rfl ⟨z1 rfl,zp rfl (op_call _ _ 26 _ _ rfl call26 rfl (ok_wherryref11_pathed v62.1 2 _ hv68) rfl rfl),zp rfl (op_extract_take _ _ _ _ _ rfl (zl rfl) rfl rfl (by decide) rfl),zp rfl (oE rfl),zp rfl (op_store_take _ _ _ _ _ _ _ _ sz26 rfl rfl rfl (zl rfl) rfl rfl),z2 rfl,zz⟩ ?_
             refine pt_then (ht_ret ?_)
             refine pt_r_in ?_
             refine pt_r_then ?_
             have h := hr248 _ (Option.some.inj h).symm
             have h := hr184 _ (Option.some.inj h).symm
             obtain rfl := Option.some.inj h
             exact pt_ret hio rfl (.cellA _ _ _ _ underlying26 rfl sz26 (.tmp _ _ .nil)) rfl rfl
            ·have h := cond_f hb266 h
             refine ht_skip ?_
             refine pt_inb ?_
             refine pt_pick [0] (by kernel_rfl) (es' := [(_,_)]) rfl ?_
             exact hl247 _ (Option.some.inj h).symm
           ·intro u263 h hl264 hr265
            refine cond_some h (fun hg22_2 h => ?_) (fun hg22_2 h => ?_)
            ·refine zg hn [_,_,_,_,(72,vb ((v37.size : Int) == (s.size : Int))),(73,vb (!(((v37.size : Int) == (s.size : Int))))),(74,vb true),(75,vb v62.2),(76,vb v62.2)] [0,1,2,3] [0,2,8] [zq [1] 4 72,zq [4] 5 73,zq [5] 6 74,zq [6,3] 7 75,zq [6,7] 8 76] [(_,_),(_,_),(_,_)] rfl ⟨z1 rfl,zp rfl (op_un _ _ _ _ rfl rfl),z8 hg22_2 rfl,zr' rfl (oM rfl),z3 true rfl,zz⟩ ?_
             exact hl264 _ (Option.some.inj h).symm
            ·refine zg hn [_,_,_,_,(72,vb ((v37.size : Int) == (s.size : Int))),(73,vb (!(((v37.size : Int) == (s.size : Int))))),(74,vb false),(75,.v undef),(76,vb false)] [0,1,2,3] [0,2,8] [zq [1] 4 72,zq [4] 5 73,zq [5] 6 74,zq [6] 7 75,zq [6] 8 76] [(_,_),(_,_),(_,_)] rfl ⟨z1 rfl,zp rfl (op_un _ _ _ _ rfl rfl),z8 hg22_2 rfl,zt rfl,z3 false rfl,zz⟩ ?_
             exact hl264 _ (Option.some.inj h).symm
          ·have h := cond_f hb261 h
           refine zgg hn [_,_,_,_,_,_,(82,vb (v37.toList == (⟨#[114,99,112,116]⟩ : ByteArray).toList)),(81,vb (v37.toList == (⟨#[114,99,112,116]⟩ : ByteArray).toList))] [0,1,2,3,4,5] [0,1,2,3,4,7] [zq [4] 6 82,zq [6] 7 81] [(_,_),(_,_),(_,_),(_,_),(_,_),(_,_)] rfl ⟨z4 rfl rfl,z2 rfl,zz⟩ ?_
           refine ht_cond _ rfl (fun hb267 => ?_) (fun hb267 => ?_)
           ·have h := cond_t hb267 h
            refine ht_seq ?_
            obtain ⟨v70, hv70, h⟩ := bind_some h
            refine zg hn [_,_,_,_,_,_,(84,vs s43),(85,.tup [vs v70.1,vb v70.2]),(83,.tup [vs v70.1,vb v70.2]),(86,vs v70.1),(87,vb v70.2),(10,vs v70.1),(11,vb v70.2)] [0,1,2,3,4,5] [0,2,11,12] [zq [3] 6 84,zq [6] 7 85,⟨[],[7],[8],[(.slot 83)]⟩,zq [8] 9 86,zq [8] 10 87,zq [9] 11 10,zq [10] 12 11] [(_,_),(_,_),(_,_),(_,_)] rfl ⟨z1 rfl,zp rfl (op_call _ _ 25 _ _ rfl call25 rfl (ok_wherryref11_begins s43 (⟨#[116, 111, 58]⟩ : ByteArray) _ hv70) rfl rfl),zp rfl (op_move_take _ _ _ _ rfl),zp rfl (oE rfl),zp rfl (oE rfl),z2 rfl,z2 rfl,zz⟩ ?_
            refine pt_then (ht_seq ?_)
            refine ht_joinS h (fun (s268 : Bool) => [(2, .box 26 [.v (.int .i64 0), .v (.string (⟨#[]⟩ : ByteArray)), .v (.bool false), .v (.string (⟨#[]⟩ : ByteArray)), .v (.string (⟨#[]⟩ : ByteArray)), .v (.slice none 0 0)]), (10, .v (.string v70.1)), (92, .v (.bool s268))]) ?_ ?_
            ·rintro s268 h
             refine pt_then ?_
             refine ht_cond _ rfl (fun hb272 => ?_) (fun hb272 => ?_)
             ·have h := cond_t hb272 h
              refine ht_seq ?_
              obtain ⟨v76, hv76, h⟩ := bind_some h
              refine zg hn [_,_,_,(93,vs v70.1),(94,.tup [.agg [vi v76.1.Kind,vs v76.1.Text,vb v76.1.Path.Null,vs v76.1.Path.Local,vs v76.1.Path.Domain,.fl (.own 47) 2 (List.flatten (List.map T_Param.enc v76.1.Params))],vi v76.2]),(95,.agg [vi v76.1.Kind,vs v76.1.Text,vb v76.1.Path.Null,vs v76.1.Path.Local,vs v76.1.Path.Domain,.fl (.own 47) 2 (List.flatten (List.map T_Param.enc v76.1.Params))]),(94,.tup [.any,vi v76.2]),(96,vi v76.2),(2,.box 26 [vi v76.1.Kind,vs v76.1.Text,vb v76.1.Path.Null,vs v76.1.Path.Local,vs v76.1.Path.Domain,.fl (.own 47) 2 (List.flatten (List.map T_Param.enc v76.1.Params))]),(3,vi v76.2)] [0,1,2] [8,9] [zq [1] 3 93,zq [3] 4 94,⟨[],[4],[6,5],[(.slot 95)]⟩,zq [6] 7 96,⟨[],[5,0],[8],[.cell 2 0,.cell 2 1,.cell 2 2,.cell 2 3,.cell 2 4,.cell 2 5]⟩,zq [7] 9 3] [(_,_),(_,_)] rfl ⟨z1 rfl,zp rfl (op_call _ _ 26 _ _ rfl call26 rfl (ok_wherryref11_pathed v70.1 3 _ hv76) rfl rfl),zp rfl (op_extract_take _ _ _ _ _ rfl (zl rfl) rfl rfl (by decide) rfl),zp rfl (oE rfl),zp rfl (op_store_take _ _ _ _ _ _ _ _ sz26 rfl rfl rfl (zl rfl) rfl rfl),z2 rfl,zz⟩ ?_
              refine pt_then (ht_ret ?_)
              refine pt_r_in ?_
              refine pt_r_then ?_
              have h := hr248 _ (Option.some.inj h).symm
              have h := hr184 _ (Option.some.inj h).symm
              obtain rfl := Option.some.inj h
              exact pt_ret hio rfl (.cellA _ _ _ _ underlying26 rfl sz26 (.tmp _ _ .nil)) rfl rfl
             ·have h := cond_f hb272 h
              refine ht_skip ?_
              refine pt_inb ?_
              refine pt_pick [0] (by kernel_rfl) (es' := [(_,_)]) rfl ?_
              exact hl247 _ (Option.some.inj h).symm
            ·intro u269 h hl270 hr271
             refine cond_some h (fun hg26_2 h => ?_) (fun hg26_2 h => ?_)
             ·refine zg hn [_,_,_,_,(88,vb ((v37.size : Int) == (s.size : Int))),(89,vb (!(((v37.size : Int) == (s.size : Int))))),(90,vb true),(91,vb v70.2),(92,vb v70.2)] [0,1,2,3] [0,2,8] [zq [1] 4 88,zq [4] 5 89,zq [5] 6 90,zq [6,3] 7 91,zq [6,7] 8 92] [(_,_),(_,_),(_,_)] rfl ⟨z1 rfl,zp rfl (op_un _ _ _ _ rfl rfl),z8 hg26_2 rfl,zr' rfl (oM rfl),z3 true rfl,zz⟩ ?_
              exact hl270 _ (Option.some.inj h).symm
             ·refine zg hn [_,_,_,_,(88,vb ((v37.size : Int) == (s.size : Int))),(89,vb (!(((v37.size : Int) == (s.size : Int))))),(90,vb false),(91,.v undef),(92,vb false)] [0,1,2,3] [0,2,8] [zq [1] 4 88,zq [4] 5 89,zq [5] 6 90,zq [6] 7 91,zq [6] 8 92] [(_,_),(_,_),(_,_)] rfl ⟨z1 rfl,zp rfl (op_un _ _ _ _ rfl rfl),z8 hg26_2 rfl,zt rfl,z3 false rfl,zz⟩ ?_
              exact hl270 _ (Option.some.inj h).symm
           ·have h := cond_f hb267 h
            refine ht_seq ?_
            refine ht_joinS h (fun (s275 : Bool) => [(2, .box 26 [.v (.int .i64 0), .v (.string (⟨#[]⟩ : ByteArray)), .v (.bool false), .v (.string (⟨#[]⟩ : ByteArray)), .v (.string (⟨#[]⟩ : ByteArray)), .v (.slice none 0 0)]), (5, .v (.string v37)), (6, .v (.bool (((v37.size : Int) == (s.size : Int))))), (7, .v (.string s43)), (53, .v (.string v37)), (97, .v (.bool s275))]) ?_ ?_
            ·rintro s275 h
             refine pt_then ?_
             refine ht_cond _ rfl (fun hb281 => ?_) (fun hb281 => ?_)
             ·have h := cond_t hb281 h
              refine zgg hn [_,_,_,_,_,_,(101,vb ((v37.size : Int) == (s.size : Int)))] [0,1,2,3,4,5] [0,1,6] [zq [2] 6 101] [(_,_),(_,_),(_,_)] rfl ⟨z1 rfl,zz⟩ ?_
              refine ht_cond _ rfl (fun hb282 => ?_) (fun hb282 => ?_)
              ·have h := cond_t hb282 h
               refine zgg hn [_,_,_,(12,vi 4)] [0,1,2] [0,1,3] [zq [] 3 12] [(_,_),(_,_),(_,_)] rfl ⟨z2 rfl,zz⟩ ?_
               refine ht_seq ?_
               refine ht_joinS h (fun (s285 : Int) => [(2, .box 26 [.v (.int .i64 0), .v (.string (⟨#[]⟩ : ByteArray)), .v (.bool false), .v (.string (⟨#[]⟩ : ByteArray)), .v (.string (⟨#[]⟩ : ByteArray)), .v (.slice none 0 0)]), (12, .v (.int .i64 s285))]) ?_ ?_
               ·rintro s285 h
                refine pt_then ?_
                refine zgg hn [_,_,(106,vi s285),(107,.agg [vi s285,vs z0,vb false,vs z0,vs z0,.v (.slice none 0 0)]),(2,.box 26 [vi s285,vs z0,vb false,vs z0,vs z0,.v (.slice none 0 0)]),(3,vi 0)] [0,1] [4,5] [zq [1] 2 106,zq [2] 3 107,⟨[3],[0],[4],[.cell 2 0,.cell 2 1,.cell 2 2,.cell 2 3,.cell 2 4,.cell 2 5]⟩,zq [] 5 3] [(_,_),(_,_)] rfl ⟨z1 rfl,zp rfl (op_build _ _ _ _ [1, 1, 3, 1] _ _ underlying26 zr26 (fs26 _ underlying26) (.copy _ Src.nil) rfl rfl rfl),zp rfl (oS sz26 rfl),z2 rfl,zz⟩ ?_
                refine ht_ret ?_
                refine pt_sub (fs := [(2, .box 26 [.v (.int .i64 s285), .v (.string (⟨#[]⟩ : ByteArray)), .v (.bool false), .v (.string (⟨#[]⟩ : ByteArray)), .v (.string (⟨#[]⟩ : ByteArray)), .fl (.own 47) 2 (List.flatten (List.map T_Param.enc []))]), (3, .v (.int .i64 0))]) (.box _ _ (subs_cons (sub_refl _) (subs_cons (sub_refl _) (subs_cons (sub_refl _) (subs_cons (sub_refl _) (subs_cons (sub_refl _) (subs_cons (sub_nil 47 2) (subs_nil))))))) rfl (.same _ .nil)) ?_
                refine pt_r_in ?_
                refine pt_r_then ?_
                have h := hr248 _ (Option.some.inj h).symm
                have h := hr184 _ (Option.some.inj h).symm
                obtain rfl := Option.some.inj h
                exact pt_ret hio rfl (.cellA _ _ _ _ underlying26 rfl sz26 (.tmp _ _ .nil)) rfl rfl
               ·intro u286 h hl287 hr288
                refine zgg hn [_,_,_,(102,vs v37),(103,vb (v37.toList == (⟨#[114,115,101,116]⟩ : ByteArray).toList))] [0,1,2] [0,1,2,4] [zq [1] 3 102,zq [3] 4 103] [(_,_),(_,_),(_,_),(_,_)] rfl ⟨z1 rfl,z4 rfl rfl,zz⟩ ?_
                refine ht_cond _ rfl (fun hb289 => ?_) (fun hb289 => ?_)
                ·have h := cond_t hb289 h
                 refine zg hn [_,_,_,_,(12,vi 5)] [0,1,2,3] [0,4] [⟨[],[2],[4],[(.slot 12)]⟩] [(_,_),(_,_)] rfl ⟨zp rfl (LOp.drop [_] (op_assign _ _ _ _ rfl rfl)),zz⟩ ?_
                 exact hl287 _ (Option.some.inj h).symm
                ·have h := cond_f hb289 h
                 refine zgg hn [_,_,_,_,(104,vs v37),(105,vb (v37.toList == (⟨#[113,117,105,116]⟩ : ByteArray).toList))] [0,1,2,3] [0,2,5] [zq [1] 4 104,zq [4] 5 105] [(_,_),(_,_),(_,_)] rfl ⟨z1 rfl,z4 rfl rfl,zz⟩ ?_
                 refine ht_cond _ rfl (fun hb290 => ?_) (fun hb290 => ?_)
                 ·have h := cond_t hb290 h
                  refine zg hn [_,_,_,(12,vi 8)] [0,1,2] [0,3] [⟨[],[1],[3],[(.slot 12)]⟩] [(_,_),(_,_)] rfl ⟨zp rfl (LOp.drop [_] (op_assign _ _ _ _ rfl rfl)),zz⟩ ?_
                  exact hl287 _ (Option.some.inj h).symm
                 ·have h := cond_f hb290 h
                  refine ht_skip ?_
                  refine pt_pick [0, 1] (by kernel_rfl) (es' := [(_,_),(_,_)]) rfl ?_
                  exact hl287 _ (Option.some.inj h).symm
              ·have h := cond_f hb282 h
               refine ht_skip ?_
               refine pt_inb ?_
               refine pt_pick [0] (by kernel_rfl) (es' := [(_,_)]) rfl ?_
               exact hl247 _ (Option.some.inj h).symm
             ·have h := cond_f hb281 h
              refine zgg hn [_,_,_,_,_,_,(109,vb (v37.toList == (⟨#[110,111,111,112]⟩ : ByteArray).toList)),(108,vb (v37.toList == (⟨#[110,111,111,112]⟩ : ByteArray).toList))] [0,1,2,3,4,5] [0,2,3,4,7] [zq [4] 6 109,zq [6] 7 108] [(_,_),(_,_),(_,_),(_,_),(_,_)] rfl ⟨z4 rfl rfl,z2 rfl,zz⟩ ?_
              refine ht_cond _ rfl (fun hb291 => ?_) (fun hb291 => ?_)
              ·have h := cond_t hb291 h
               refine zgg hn [_,_,_,_,_,(110,.agg [vi 7,vs z0,vb false,vs z0,vs z0,.v (.slice none 0 0)]),(2,.box 26 [vi 7,vs z0,vb false,vs z0,vs z0,.v (.slice none 0 0)]),(3,vi 0)] [0,1,2,3,4] [6,7] [zq [] 5 110,⟨[5],[0],[6],[.cell 2 0,.cell 2 1,.cell 2 2,.cell 2 3,.cell 2 4,.cell 2 5]⟩,zq [] 7 3] [(_,_),(_,_)] rfl ⟨zp rfl (op_build _ _ _ _ [1, 1, 3, 1] _ _ underlying26 zr26 (fs26 _ underlying26) (.copy _ Src.nil) rfl rfl rfl),zp rfl (oS sz26 rfl),z2 rfl,zz⟩ ?_
               refine ht_ret ?_
               refine pt_sub (fs := [(2, .box 26 [.v (.int .i64 7), .v (.string (⟨#[]⟩ : ByteArray)), .v (.bool false), .v (.string (⟨#[]⟩ : ByteArray)), .v (.string (⟨#[]⟩ : ByteArray)), .fl (.own 47) 2 (List.flatten (List.map T_Param.enc []))]), (3, .v (.int .i64 0))]) (.box _ _ (subs_cons (sub_refl _) (subs_cons (sub_refl _) (subs_cons (sub_refl _) (subs_cons (sub_refl _) (subs_cons (sub_refl _) (subs_cons (sub_nil 47 2) (subs_nil))))))) rfl (.same _ .nil)) ?_
               refine pt_r_in ?_
               refine pt_r_then ?_
               have h := hr248 _ (Option.some.inj h).symm
               have h := hr184 _ (Option.some.inj h).symm
               obtain rfl := Option.some.inj h
               exact pt_ret hio rfl (.cellA _ _ _ _ underlying26 rfl sz26 (.tmp _ _ .nil)) rfl rfl
              ·have h := cond_f hb291 h
               refine zgg hn [_,_,_,_,_,(112,vb (v37.toList == (⟨#[118,114,102,121]⟩ : ByteArray).toList)),(111,vb (v37.toList == (⟨#[118,114,102,121]⟩ : ByteArray).toList))] [0,1,2,3,4] [0,1,2,3,6] [zq [3] 5 112,zq [5] 6 111] [(_,_),(_,_),(_,_),(_,_),(_,_)] rfl ⟨z4 rfl rfl,z2 rfl,zz⟩ ?_
               refine ht_cond _ rfl (fun hb292 => ?_) (fun hb292 => ?_)
               ·have h := cond_t hb292 h
                refine ht_seq ?_
                refine ht_joinS h (fun (s293 : Bool) => [(2, .box 26 [.v (.int .i64 0), .v (.string (⟨#[]⟩ : ByteArray)), .v (.bool false), .v (.string (⟨#[]⟩ : ByteArray)), .v (.string (⟨#[]⟩ : ByteArray)), .v (.slice none 0 0)]), (7, .v (.string s43)), (118, .v (.bool s293))]) ?_ ?_
                ·rintro s293 h
                 refine pt_then ?_
                 refine ht_cond _ rfl (fun hb297 => ?_) (fun hb297 => ?_)
                 ·have h := cond_t hb297 h
                  refine zgg hn [_,_,_,(119,vs s43),(120,.agg [vi 6,vs s43,vb false,vs z0,vs z0,.v (.slice none 0 0)]),(2,.box 26 [vi 6,vs s43,vb false,vs z0,vs z0,.v (.slice none 0 0)]),(3,vi 0)] [0,1,2] [5,6] [zq [1] 3 119,zq [3] 4 120,⟨[4],[0],[5],[.cell 2 0,.cell 2 1,.cell 2 2,.cell 2 3,.cell 2 4,.cell 2 5]⟩,zq [] 6 3] [(_,_),(_,_)] rfl ⟨z1 rfl,zp rfl (op_build _ _ _ _ [1, 1, 3, 1] _ _ underlying26 zr26 (fs26 _ underlying26) (.copy _ (.copy _ Src.nil)) rfl rfl rfl),zp rfl (oS sz26 rfl),z2 rfl,zz⟩ ?_
                  refine ht_ret ?_
                  refine pt_sub (fs := [(2, .box 26 [.v (.int .i64 6), .v (.string s43), .v (.bool false), .v (.string (⟨#[]⟩ : ByteArray)), .v (.string (⟨#[]⟩ : ByteArray)), .fl (.own 47) 2 (List.flatten (List.map T_Param.enc []))]), (3, .v (.int .i64 0))]) (.box _ _ (subs_cons (sub_refl _) (subs_cons (sub_refl _) (subs_cons (sub_refl _) (subs_cons (sub_refl _) (subs_cons (sub_refl _) (subs_cons (sub_nil 47 2) (subs_nil))))))) rfl (.same _ .nil)) ?_
                  refine pt_r_in ?_
                  refine pt_r_then ?_
                  have h := hr248 _ (Option.some.inj h).symm
                  have h := hr184 _ (Option.some.inj h).symm
                  obtain rfl := Option.some.inj h
                  exact pt_ret hio rfl (.cellA _ _ _ _ underlying26 rfl sz26 (.tmp _ _ .nil)) rfl rfl
                 ·have h := cond_f hb297 h
                  refine ht_skip ?_
                  refine pt_inb ?_
                  refine pt_pick [0] (by kernel_rfl) (es' := [(_,_)]) rfl ?_
                  exact hl247 _ (Option.some.inj h).symm
                ·intro u294 h hl295 hr296
                 refine cond_some h (fun hg41_2 h => ?_) (fun hg41_2 h => ?_)
                 ·refine zg hn [_,_,_,_,_,(113,vb ((v37.size : Int) == (s.size : Int))),(114,vb (!(((v37.size : Int) == (s.size : Int))))),(115,vb true),(116,vs s43),(117,vb (!(s43.toList == z0.toList))),(118,vb (!(s43.toList == z0.toList)))] [0,1,2,3,4] [0,2,10] [zq [1] 5 113,zq [5] 6 114,zq [6] 7 115,zq [7,2] 8 116,zq [7,8] 9 117,zq [7,9] 10 118] [(_,_),(_,_),(_,_)] rfl ⟨z1 rfl,zp rfl (op_un _ _ _ _ rfl rfl),z8 hg41_2 rfl,zr' rfl (oM rfl),zr' rfl (oB rfl rfl),z3 true rfl,zz⟩ ?_
                  exact hl295 _ (Option.some.inj h).symm
                 ·refine zg hn [_,_,_,_,_,(113,vb ((v37.size : Int) == (s.size : Int))),(114,vb (!(((v37.size : Int) == (s.size : Int))))),(115,vb false),(116,.v undef),(117,.v undef),(118,vb false)] [0,1,2,3,4] [0,2,10] [zq [1] 5 113,zq [5] 6 114,zq [6] 7 115,zq [7] 8 116,zq [7] 9 117,zq [7] 10 118] [(_,_),(_,_),(_,_)] rfl ⟨z1 rfl,zp rfl (op_un _ _ _ _ rfl rfl),z8 hg41_2 rfl,zt rfl,zt rfl,z3 false rfl,zz⟩ ?_
                  exact hl295 _ (Option.some.inj h).symm
               ·have h := cond_f hb292 h
                refine zgg hn [_,_,_,_,_,(122,vb (v37.toList == (⟨#[101,116,114,110]⟩ : ByteArray).toList)),(121,vb (v37.toList == (⟨#[101,116,114,110]⟩ : ByteArray).toList))] [0,1,2,3,4] [0,1,2,3,6] [zq [3] 5 122,zq [5] 6 121] [(_,_),(_,_),(_,_),(_,_),(_,_)] rfl ⟨z4 rfl rfl,z2 rfl,zz⟩ ?_
                refine ht_cond _ rfl (fun hb298 => ?_) (fun hb298 => ?_)
                ·have h := cond_t hb298 h
                 refine ht_seq ?_
                 refine ht_joinS h (fun (s299 : Bool) => [(2, .box 26 [.v (.int .i64 0), .v (.string (⟨#[]⟩ : ByteArray)), .v (.bool false), .v (.string (⟨#[]⟩ : ByteArray)), .v (.string (⟨#[]⟩ : ByteArray)), .v (.slice none 0 0)]), (7, .v (.string s43)), (128, .v (.bool s299))]) ?_ ?_
                 ·rintro s299 h
                  refine pt_then ?_
                  refine ht_cond _ rfl (fun hb303 => ?_) (fun hb303 => ?_)
                  ·have h := cond_t hb303 h
                   refine zgg hn [_,_,_,(129,vs s43),(130,.agg [vi 9,vs s43,vb false,vs z0,vs z0,.v (.slice none 0 0)]),(2,.box 26 [vi 9,vs s43,vb false,vs z0,vs z0,.v (.slice none 0 0)]),(3,vi 0)] [0,1,2] [5,6] [zq [1] 3 129,zq [3] 4 130,⟨[4],[0],[5],[.cell 2 0,.cell 2 1,.cell 2 2,.cell 2 3,.cell 2 4,.cell 2 5]⟩,zq [] 6 3] [(_,_),(_,_)] rfl ⟨z1 rfl,zp rfl (op_build _ _ _ _ [1, 1, 3, 1] _ _ underlying26 zr26 (fs26 _ underlying26) (.copy _ (.copy _ Src.nil)) rfl rfl rfl),zp rfl (oS sz26 rfl),z2 rfl,zz⟩ ?_
                   refine ht_ret ?_
                   refine pt_sub (fs := [(2, .box 26 [.v (.int .i64 9), .v (.string s43), .v (.bool false), .v (.string (⟨#[]⟩ : ByteArray)), .v (.string (⟨#[]⟩ : ByteArray)), .fl (.own 47) 2 (List.flatten (List.map T_Param.enc []))]), (3, .v (.int .i64 0))]) (.box _ _ (subs_cons (sub_refl _) (subs_cons (sub_refl _) (subs_cons (sub_refl _) (subs_cons (sub_refl _) (subs_cons (sub_refl _) (subs_cons (sub_nil 47 2) (subs_nil))))))) rfl (.same _ .nil)) ?_
                   refine pt_r_in ?_
                   refine pt_r_then ?_
                   have h := hr248 _ (Option.some.inj h).symm
                   have h := hr184 _ (Option.some.inj h).symm
                   obtain rfl := Option.some.inj h
                   exact pt_ret hio rfl (.cellA _ _ _ _ underlying26 rfl sz26 (.tmp _ _ .nil)) rfl rfl
                  ·have h := cond_f hb303 h
                   refine ht_skip ?_
                   refine pt_inb ?_
                   refine pt_pick [0] (by kernel_rfl) (es' := [(_,_)]) rfl ?_
                   exact hl247 _ (Option.some.inj h).symm
                 ·intro u300 h hl301 hr302
                  refine cond_some h (fun hg44_2 h => ?_) (fun hg44_2 h => ?_)
                  ·obtain ⟨v103, hv103, h⟩ := bind_some h
                   refine zg hn [_,_,_,_,_,(123,vb ((v37.size : Int) == (s.size : Int))),(124,vb (!(((v37.size : Int) == (s.size : Int))))),(125,vb true),(126,vs s43),(127,vb v103),(128,vb v103)] [0,1,2,3,4] [0,2,10] [zq [1] 5 123,zq [5] 6 124,zq [6] 7 125,zq [7,2] 8 126,zq [7,8] 9 127,zq [7,9] 10 128] [(_,_),(_,_),(_,_)] rfl ⟨z1 rfl,zp rfl (op_un _ _ _ _ rfl rfl),z8 hg44_2 rfl,zr' rfl (oM rfl),zr' rfl (op_call _ _ 24 _ _ rfl call24 rfl (ok_wherryref11_Domain s43 _ hv103) rfl rfl),z3 true rfl,zz⟩ ?_
                   exact hl301 _ (Option.some.inj h).symm
                  ·refine zg hn [_,_,_,_,_,(123,vb ((v37.size : Int) == (s.size : Int))),(124,vb (!(((v37.size : Int) == (s.size : Int))))),(125,vb false),(126,.v undef),(127,.v undef),(128,vb false)] [0,1,2,3,4] [0,2,10] [zq [1] 5 123,zq [5] 6 124,zq [6] 7 125,zq [7] 8 126,zq [7] 9 127,zq [7] 10 128] [(_,_),(_,_),(_,_)] rfl ⟨z1 rfl,zp rfl (op_un _ _ _ _ rfl rfl),z8 hg44_2 rfl,zt rfl,zt rfl,z3 false rfl,zz⟩ ?_
                   exact hl301 _ (Option.some.inj h).symm
                ·have h := cond_f hb298 h
                 refine zgg hn [_,_,_,_,_,(132,vb (v37.toList == (⟨#[97,117,116,104]⟩ : ByteArray).toList)),(131,vb (v37.toList == (⟨#[97,117,116,104]⟩ : ByteArray).toList))] [0,1,2,3,4] [0,1,2,3,6] [zq [3] 5 132,zq [5] 6 131] [(_,_),(_,_),(_,_),(_,_),(_,_)] rfl ⟨z4 rfl rfl,z2 rfl,zz⟩ ?_
                 refine ht_cond _ rfl (fun hb304 => ?_) (fun hb304 => ?_)
                 ·have h := cond_t hb304 h
                  refine ht_seq ?_
                  refine ht_seq ?_
                  obtain ⟨v110, hv110, h⟩ := bind_some h
                  refine zg hn [_,_,_,_,_,(133,vs s43),(134,vs v110),(135,vb (v110.toList == (⟨#[99,114,97,109,45,109,100,53]⟩ : ByteArray).toList))] [0,1,2,3,4] [0,2,7] [zq [2] 5 133,zq [5] 6 134,zq [6] 7 135] [(_,_),(_,_),(_,_)] rfl ⟨z1 rfl,zp rfl (op_call _ _ 27 _ _ rfl call27 rfl (ok_wherryref11_Fold s43 _ hv110) rfl rfl),z4 rfl rfl,zz⟩ ?_
                  refine pt_then ?_
                  refine ht_cond _ rfl (fun hb305 => ?_) (fun hb305 => ?_)
                  ·have h := cond_t hb305 h
                   refine zgg hn [_,_,_,(136,.agg [vi 10,vs z0,vb false,vs z0,vs z0,.v (.slice none 0 0)]),(2,.box 26 [vi 10,vs z0,vb false,vs z0,vs z0,.v (.slice none 0 0)]),(3,vi 0)] [0,1,2] [4,5] [zq [] 3 136,⟨[3],[0],[4],[.cell 2 0,.cell 2 1,.cell 2 2,.cell 2 3,.cell 2 4,.cell 2 5]⟩,zq [] 5 3] [(_,_),(_,_)] rfl ⟨zp rfl (op_build _ _ _ _ [1, 1, 3, 1] _ _ underlying26 zr26 (fs26 _ underlying26) (.copy _ Src.nil) rfl rfl rfl),zp rfl (oS sz26 rfl),z2 rfl,zz⟩ ?_
                   refine ht_ret ?_
                   refine pt_sub (fs := [(2, .box 26 [.v (.int .i64 10), .v (.string (⟨#[]⟩ : ByteArray)), .v (.bool false), .v (.string (⟨#[]⟩ : ByteArray)), .v (.string (⟨#[]⟩ : ByteArray)), .fl (.own 47) 2 (List.flatten (List.map T_Param.enc []))]), (3, .v (.int .i64 0))]) (.box _ _ (subs_cons (sub_refl _) (subs_cons (sub_refl _) (subs_cons (sub_refl _) (subs_cons (sub_refl _) (subs_cons (sub_refl _) (subs_cons (sub_nil 47 2) (subs_nil))))))) rfl (.same _ .nil)) ?_
                   refine pt_r_then ?_
                   refine pt_r_in ?_
                   refine pt_r_then ?_
                   have h := hr248 _ (Option.some.inj h).symm
                   have h := hr184 _ (Option.some.inj h).symm
                   obtain rfl := Option.some.inj h
                   exact pt_ret hio rfl (.cellA _ _ _ _ underlying26 rfl sz26 (.tmp _ _ .nil)) rfl rfl
                  ·have h := cond_f hb305 h
                   refine ht_skip ?_
                   refine pt_then (ht_seq ?_)
                   obtain ⟨v112, hv112, h⟩ := bind_some h
                   refine zg hn [_,_,_,(137,vs s43),(138,vb v112)] [0,1,2] [0,4] [zq [1] 3 137,zq [3] 4 138] [(_,_),(_,_)] rfl ⟨z1 rfl,zp rfl (op_call _ _ 28 _ _ rfl call28 rfl (ok_wherryref11_mechanism s43 _ hv112) rfl rfl),zz⟩ ?_
                   refine pt_then ?_
                   refine ht_cond _ rfl (fun hb306 => ?_) (fun hb306 => ?_)
                   ·have h := cond_t hb306 h
                    refine zgg hn [_,_,(139,.agg [vi 0,vs z0,vb false,vs z0,vs z0,.v (.slice none 0 0)]),(2,.box 26 [vi 0,vs z0,vb false,vs z0,vs z0,.v (.slice none 0 0)]),(3,vi 504)] [0,1] [3,4] [zq [] 2 139,⟨[],[2,0],[3],[.cell 2 0,.cell 2 1,.cell 2 2,.cell 2 3,.cell 2 4,.cell 2 5]⟩,zq [] 4 3] [(_,_),(_,_)] rfl ⟨zp rfl (op_build _ _ _ _ [1, 1, 3, 1] _ _ underlying26 zr26 (fs26 _ underlying26) Src.nil rfl rfl rfl),zp rfl (op_store_self _ _ _ 139 2 6 sz26 rfl rfl rfl rfl rfl (.eq _ (.eq _ (.eq _ (.eq _ (.eq _ (.eq _ (.nil _))))))) rfl),z2 rfl,zz⟩ ?_
                    refine ht_ret ?_
                    refine pt_sub (fs := [(2, .box 26 [.v (.int .i64 0), .v (.string (⟨#[]⟩ : ByteArray)), .v (.bool false), .v (.string (⟨#[]⟩ : ByteArray)), .v (.string (⟨#[]⟩ : ByteArray)), .fl (.own 47) 2 (List.flatten (List.map T_Param.enc []))]), (3, .v (.int .i64 504))]) (.box _ _ (subs_cons (sub_refl _) (subs_cons (sub_refl _) (subs_cons (sub_refl _) (subs_cons (sub_refl _) (subs_cons (sub_refl _) (subs_cons (sub_nil 47 2) (subs_nil))))))) rfl (.same _ .nil)) ?_
                    refine pt_r_in ?_
                    refine pt_r_then ?_
                    have h := hr248 _ (Option.some.inj h).symm
                    have h := hr184 _ (Option.some.inj h).symm
                    obtain rfl := Option.some.inj h
                    exact pt_ret hio rfl (.cellA _ _ _ _ underlying26 rfl sz26 (.tmp _ _ .nil)) rfl rfl
                   ·have h := cond_f hb306 h
                    refine ht_skip ?_
                    refine pt_inb ?_
                    refine pt_pick [0] (by kernel_rfl) (es' := [(_,_)]) rfl ?_
                    exact hl247 _ (Option.some.inj h).symm
                 ·have h := cond_f hb304 h
                  refine zgg hn [_,_,_,_,_,(141,vb (v37.toList == (⟨#[97,116,114,110]⟩ : ByteArray).toList)),(140,vb (v37.toList == (⟨#[97,116,114,110]⟩ : ByteArray).toList))] [0,1,2,3,4] [0,1,2,6] [zq [3] 5 141,zq [5] 6 140] [(_,_),(_,_),(_,_),(_,_)] rfl ⟨z4 rfl rfl,z2 rfl,zz⟩ ?_
                  refine ht_cond _ rfl (fun hb307 => ?_) (fun hb307 => ?_)
                  ·have h := cond_t hb307 h
                   refine ht_seq ?_
                   refine zgg hn [_,_,_,_,(142,vb ((v37.size : Int) == (s.size : Int)))] [0,1,2,3] [0,2,4] [zq [1] 4 142] [(_,_),(_,_),(_,_)] rfl ⟨z1 rfl,zz⟩ ?_
                   refine ht_cond _ rfl (fun hb308 => ?_) (fun hb308 => ?_)
                   ·have h := cond_t hb308 h
                    refine zgg hn [_,_,_,(143,.agg [vi 11,vs z0,vb false,vs z0,vs z0,.v (.slice none 0 0)]),(2,.box 26 [vi 11,vs z0,vb false,vs z0,vs z0,.v (.slice none 0 0)]),(3,vi 0)] [0,1,2] [4,5] [zq [] 3 143,⟨[3],[0],[4],[.cell 2 0,.cell 2 1,.cell 2 2,.cell 2 3,.cell 2 4,.cell 2 5]⟩,zq [] 5 3] [(_,_),(_,_)] rfl ⟨zp rfl (op_build _ _ _ _ [1, 1, 3, 1] _ _ underlying26 zr26 (fs26 _ underlying26) (.copy _ Src.nil) rfl rfl rfl),zp rfl (oS sz26 rfl),z2 rfl,zz⟩ ?_
                    refine ht_ret ?_
                    refine pt_sub (fs := [(2, .box 26 [.v (.int .i64 11), .v (.string (⟨#[]⟩ : ByteArray)), .v (.bool false), .v (.string (⟨#[]⟩ : ByteArray)), .v (.string (⟨#[]⟩ : ByteArray)), .fl (.own 47) 2 (List.flatten (List.map T_Param.enc []))]), (3, .v (.int .i64 0))]) (.box _ _ (subs_cons (sub_refl _) (subs_cons (sub_refl _) (subs_cons (sub_refl _) (subs_cons (sub_refl _) (subs_cons (sub_refl _) (subs_cons (sub_nil 47 2) (subs_nil))))))) rfl (.same _ .nil)) ?_
                    refine pt_r_then ?_
                    refine pt_r_in ?_
                    refine pt_r_then ?_
                    have h := hr248 _ (Option.some.inj h).symm
                    have h := hr184 _ (Option.some.inj h).symm
                    obtain rfl := Option.some.inj h
                    exact pt_ret hio rfl (.cellA _ _ _ _ underlying26 rfl sz26 (.tmp _ _ .nil)) rfl rfl
                   ·have h := cond_f hb308 h
                    refine ht_skip ?_
                    refine pt_then (ht_seq ?_)
                    obtain ⟨v116, hv116, h⟩ := bind_some h
                    refine zg hn [_,_,_,(144,vs s43),(145,vb v116)] [0,1,2] [0,1,4] [zq [1] 3 144,zq [3] 4 145] [(_,_),(_,_),(_,_)] rfl ⟨z1 rfl,zp rfl (op_call _ _ 24 _ _ rfl call24 rfl (ok_wherryref11_Domain s43 _ hv116) rfl rfl),zz⟩ ?_
                    refine pt_then ?_
                    refine ht_cond _ rfl (fun hb309 => ?_) (fun hb309 => ?_)
                    ·have h := cond_t hb309 h
                     refine zgg hn [_,_,_,(146,vs s43),(147,.agg [vi 11,vs s43,vb false,vs z0,vs z0,.v (.slice none 0 0)]),(2,.box 26 [vi 11,vs s43,vb false,vs z0,vs z0,.v (.slice none 0 0)]),(3,vi 0)] [0,1,2] [5,6] [zq [1] 3 146,zq [3] 4 147,⟨[4],[0],[5],[.cell 2 0,.cell 2 1,.cell 2 2,.cell 2 3,.cell 2 4,.cell 2 5]⟩,zq [] 6 3] [(_,_),(_,_)] rfl ⟨z1 rfl,zp rfl (op_build _ _ _ _ [1, 1, 3, 1] _ _ underlying26 zr26 (fs26 _ underlying26) (.copy _ (.copy _ Src.nil)) rfl rfl rfl),zp rfl (oS sz26 rfl),z2 rfl,zz⟩ ?_
                     refine ht_ret ?_
                     refine pt_sub (fs := [(2, .box 26 [.v (.int .i64 11), .v (.string s43), .v (.bool false), .v (.string (⟨#[]⟩ : ByteArray)), .v (.string (⟨#[]⟩ : ByteArray)), .fl (.own 47) 2 (List.flatten (List.map T_Param.enc []))]), (3, .v (.int .i64 0))]) (.box _ _ (subs_cons (sub_refl _) (subs_cons (sub_refl _) (subs_cons (sub_refl _) (subs_cons (sub_refl _) (subs_cons (sub_refl _) (subs_cons (sub_nil 47 2) (subs_nil))))))) rfl (.same _ .nil)) ?_
                     refine pt_r_in ?_
                     refine pt_r_then ?_
                     have h := hr248 _ (Option.some.inj h).symm
                     have h := hr184 _ (Option.some.inj h).symm
                     obtain rfl := Option.some.inj h
                     exact pt_ret hio rfl (.cellA _ _ _ _ underlying26 rfl sz26 (.tmp _ _ .nil)) rfl rfl
                    ·have h := cond_f hb309 h
                     refine ht_skip ?_
                     refine pt_inb ?_
                     refine pt_pick [0] (by kernel_rfl) (es' := [(_,_)]) rfl ?_
                     exact hl247 _ (Option.some.inj h).symm
                  ·have h := cond_f hb307 h
                   refine ht_skip ?_
                   refine pt_inb ?_
                   refine pt_pick [0] (by kernel_rfl) (es' := [(_,_)]) rfl ?_
                   exact hl247 _ (Option.some.inj h).symm
            ·intro u276 h hl277 hr278
             refine zgg hn [_,_,_,_,_,_,(98,vb (v37.toList == (⟨#[100,97,116,97]⟩ : ByteArray).toList)),(97,vb (v37.toList == (⟨#[100,97,116,97]⟩ : ByteArray).toList))] [0,1,2,3,4,5] [0,1,2,3,4,7] [zq [4] 6 98,zq [6] 7 97] [(_,_),(_,_),(_,_),(_,_),(_,_),(_,_)] rfl ⟨z4 rfl rfl,z2 rfl,zz⟩ ?_
             refine ht_cond _ rfl (fun hb279 => ?_) (fun hb279 => ?_)
             ·have h := cond_t hb279 h
              refine ht_skip ?_
              exact hl277 _ (Option.some.inj h).symm
             ·have h := cond_f hb279 h
              refine zgg hn [_,_,_,_,_,_,(99,vb (v37.toList == (⟨#[114,115,101,116]⟩ : ByteArray).toList)),(97,vb (v37.toList == (⟨#[114,115,101,116]⟩ : ByteArray).toList))] [0,1,2,3,4,5] [0,1,2,3,4,7] [zq [4] 6 99,⟨[6],[5],[7],[(.slot 97)]⟩] [(_,_),(_,_),(_,_),(_,_),(_,_),(_,_)] rfl ⟨z4 rfl rfl,zp rfl (LOp.drop [_] (op_assign _ _ _ _ rfl rfl)),zz⟩ ?_
              refine ht_cond _ rfl (fun hb280 => ?_) (fun hb280 => ?_)
              ·have h := cond_t hb280 h
               refine ht_skip ?_
               exact hl277 _ (Option.some.inj h).symm
              ·have h := cond_f hb280 h
               refine zg hn [_,_,_,_,_,_,(100,vb (v37.toList == (⟨#[113,117,105,116]⟩ : ByteArray).toList)),(97,vb (v37.toList == (⟨#[113,117,105,116]⟩ : ByteArray).toList))] [0,1,2,3,4,5] [0,1,2,3,4,7] [zq [4] 6 100,⟨[6],[5],[7],[(.slot 97)]⟩] [(_,_),(_,_),(_,_),(_,_),(_,_),(_,_)] rfl ⟨z4 rfl rfl,zp rfl (LOp.drop [_] (op_assign _ _ _ _ rfl rfl)),zz⟩ ?_
               exact hl277 _ (Option.some.inj h).symm
        ·intro u251 h hl252 hr253
         refine zgg hn [_,_,_,_,_,(55,vb (v37.toList == (⟨#[101,104,108,111]⟩ : ByteArray).toList)),(54,vb (v37.toList == (⟨#[101,104,108,111]⟩ : ByteArray).toList))] [0,1,2,3,4] [0,1,2,3,4,6] [zq [4] 5 55,zq [5] 6 54] [(_,_),(_,_),(_,_),(_,_),(_,_),(_,_)] rfl ⟨z4 rfl rfl,z2 rfl,zz⟩ ?_
         refine ht_cond _ rfl (fun hb254 => ?_) (fun hb254 => ?_)
         ·have h := cond_t hb254 h
          refine ht_skip ?_
          exact hl252 _ (Option.some.inj h).symm
         ·have h := cond_f hb254 h
          refine zg hn [_,_,_,_,_,_,(56,vb (v37.toList == (⟨#[104,101,108,111]⟩ : ByteArray).toList)),(54,vb (v37.toList == (⟨#[104,101,108,111]⟩ : ByteArray).toList))] [0,1,2,3,4,5] [0,1,2,3,4,7] [zq [4] 6 56,⟨[6],[5],[7],[(.slot 54)]⟩] [(_,_),(_,_),(_,_),(_,_),(_,_),(_,_)] rfl ⟨z4 rfl rfl,zp rfl (LOp.drop [_] (op_assign _ _ _ _ rfl rfl)),zz⟩ ?_
          exact hl252 _ (Option.some.inj h).symm
     ·intro u44 h hl45 hr46
      refine zgg hn [_,_,_,_,_,(46,vb ((v37.size : Int) == (s.size : Int))),(47,vb (!(((v37.size : Int) == (s.size : Int)))))] [0,1,2,3,4] [0,1,2,3,4,6] [zq [3] 5 46,zq [5] 6 47] [(_,_),(_,_),(_,_),(_,_),(_,_),(_,_)] rfl ⟨z1 rfl,zp rfl (op_un _ _ _ _ rfl rfl),zz⟩ ?_
      refine ht_cond _ rfl (fun hb47 => ?_) (fun hb47 => ?_)
      ·have h := cond_t hb47 h
       obtain ⟨v41, hv41, h⟩ := bind_some h
       obtain ⟨v42, hv42, h⟩ := bind_some h
       refine zg hn [_,_,_,_,_,_,(48,vs s),(49,vs v37),(50,vi (v37.size : Int)),(51,vi v41),(52,vs v42),(7,vs v42)] [0,1,2,3,4,5] [1,2,3,11] [zq [0] 6 48,zq [2] 7 49,zq [7] 8 50,zq [8] 9 51,zq [6,9] 10 52,⟨[10],[4],[11],[(.slot 7)]⟩] [(_,_),(_,_),(_,_),(_,_)] rfl ⟨z1 rfl,z1 rfl,zp rfl (oN underlying9 rfl),zp rfl (oB rfl (ibind (f := Value.int .i64) (Option.some.inj hv41))),zp rfl (op_substr _ _ _ v41 (s.size : Int) _ underlying9 rfl ⟨_, rfl⟩ rfl hv42),zp rfl (LOp.drop [_] (op_assign _ _ _ _ rfl rfl)),zz⟩ ?_
       exact hl45 _ (Option.some.inj h).symm
      ·have h := cond_f hb47 h
       refine ht_skip ?_
       refine pt_pick [1, 2, 3, 4] (by kernel_rfl) (es' := [(_,_),(_,_),(_,_),(_,_)]) rfl ?_
       exact hl45 _ (Option.some.inj h).symm
   ·rintro u25 hl26 hr27 s18 rr30 h ho28
    refine ht_seq ?_
    refine zgg hn [_,_,_,(17,vi s18),(18,vs s),(19,vi (s.size : Int)),(20,vb (decide (s18 < (s.size : Int))))] [0,1,2] [0,1,2,6] [zq [2] 3 17,zq [0] 4 18,zq [4] 5 19,zq [3,5] 6 20] [(_,_),(_,_),(_,_),(_,_)] rfl ⟨z1 rfl,z1 rfl,zp rfl (oN underlying9 rfl),z4 rfl rfl,zz⟩ ?_
    refine ht_cond _ rfl (fun hb31 => ?_) (fun hb31 => ?_)
    ·have h := cond_t hb31 h
     refine ht_skip ?_
     refine pt_then (ht_seq ?_)
     refine ht_block ?_
     refine ht_seq ?_
     refine ht_joinS h (fun (s32 : Bool) => [(0, .v (.string s)), (2, .box 26 [.v (.int .i64 0), .v (.string (⟨#[]⟩ : ByteArray)), .v (.bool false), .v (.string (⟨#[]⟩ : ByteArray)), .v (.string (⟨#[]⟩ : ByteArray)), .v (.slice none 0 0)]), (4, .v (.int .i64 s18)), (32, .v (.bool s32))]) ?_ ?_
     ·rintro s32 h
      refine pt_then ?_
      refine ht_cond _ rfl (fun hb36 => ?_) (fun hb36 => ?_)
      ·have h := cond_t hb36 h
       refine zgg hn [_,_,_,_,(33,.agg [vi 0,vs z0,vb false,vs z0,vs z0,.v (.slice none 0 0)]),(2,.box 26 [vi 0,vs z0,vb false,vs z0,vs z0,.v (.slice none 0 0)]),(3,vi 500)] [0,1,2,3] [5,6] [zq [] 4 33,⟨[],[4,1],[5],[.cell 2 0,.cell 2 1,.cell 2 2,.cell 2 3,.cell 2 4,.cell 2 5]⟩,zq [] 6 3] [(_,_),(_,_)] rfl ⟨zp rfl (op_build _ _ _ _ [1, 1, 3, 1] _ _ underlying26 zr26 (fs26 _ underlying26) Src.nil rfl rfl rfl),zp rfl (op_store_self _ _ _ 33 2 6 sz26 rfl rfl rfl rfl rfl (.eq _ (.eq _ (.eq _ (.eq _ (.eq _ (.eq _ (.nil _))))))) rfl),z2 rfl,zz⟩ ?_
       refine ht_ret ?_
       refine pt_sub (fs := [(2, .box 26 [.v (.int .i64 0), .v (.string (⟨#[]⟩ : ByteArray)), .v (.bool false), .v (.string (⟨#[]⟩ : ByteArray)), .v (.string (⟨#[]⟩ : ByteArray)), .fl (.own 47) 2 (List.flatten (List.map T_Param.enc []))]), (3, .v (.int .i64 500))]) (.box _ _ (subs_cons (sub_refl _) (subs_cons (sub_refl _) (subs_cons (sub_refl _) (subs_cons (sub_refl _) (subs_cons (sub_refl _) (subs_cons (sub_nil 47 2) (subs_nil))))))) rfl (.same _ .nil)) ?_
       refine pt_r_in ?_
       refine pt_r_then ?_
       refine pt_r_then ?_
       refine pt_r_in ?_
       refine pt_r_then ?_
       have h := hr27 _ (ho28 _ (Option.some.inj h).symm).symm
       obtain rfl := Option.some.inj h
       exact pt_ret hio rfl (.cellA _ _ _ _ underlying26 rfl sz26 (.tmp _ _ .nil)) rfl rfl
      ·have h := cond_f hb36 h
       refine ht_skip ?_
       refine pt_inb ?_
       refine pt_then ?_
       obtain ⟨v10, hv10, h⟩ := bind_some h
       refine zg hn [_,_,_,_,(21,vi s18),(22,vi v10),(4,vi v10)] [0,1,2,3] [0,1,6] [zq [2] 4 21,zq [4] 5 22,⟨[5],[2],[6],[(.slot 4)]⟩] [(_,_),(_,_),(_,_)] rfl ⟨z1 rfl,zp rfl (oB rfl (ibind (f := Value.int .i64) (Option.some.inj hv10))),zp rfl (LOp.drop [_] (op_assign _ _ _ _ rfl rfl)),zz⟩ ?_
       exact pt_next _ (Option.some.inj h).symm rfl
     ·intro u33 h hl34 hr35
      obtain ⟨v3, hv3, h⟩ := bind_some h
      refine cond_some h (fun hg6_4 h => ?_) (fun hg6_4 h => ?_)
      ·refine zg hn [_,_,_,_,(23,vs s),(24,vi s18),(25,.v (.int .u8 v3)),(26,vb (decide (v3 < 32))),(27,vb true),(28,.v undef),(29,.v undef),(30,.v undef),(31,.v undef),(32,vb true)] [0,1,2,3] [0,1,2,13] [zq [0] 4 23,zq [2] 5 24,zq [4,5] 6 25,zq [6] 7 26,zq [7] 8 27,zq [8] 9 28,zq [8] 10 29,zq [8] 11 30,zq [8] 12 31,zq [8] 13 32] [(_,_),(_,_),(_,_),(_,_)] rfl ⟨z1 rfl,z1 rfl,zp rfl (op_chr _ _ _ s18 _ underlying9 rfl rfl hv3),z4 rfl rfl,z8 hg6_4 rfl,zf rfl,zf rfl,zf rfl,zf rfl,z3 true rfl,zz⟩ ?_
       exact hl34 _ (Option.some.inj h).symm
      ·obtain ⟨v4, hv4, h⟩ := bind_some h
       refine zg hn [_,_,_,_,(23,vs s),(24,vi s18),(25,.v (.int .u8 v3)),(26,vb (decide (v3 < 32))),(27,vb false),(28,vs s),(29,vi s18),(30,.v (.int .u8 v4)),(31,vb (decide (126 < v4))),(32,vb (decide (126 < v4)))] [0,1,2,3] [0,1,2,13] [zq [0] 4 23,zq [2] 5 24,zq [4,5] 6 25,zq [6] 7 26,zq [7] 8 27,zq [8,0] 9 28,zq [8,2] 10 29,zq [8,9,10] 11 30,zq [8,11] 12 31,zq [8,12] 13 32] [(_,_),(_,_),(_,_),(_,_)] rfl ⟨z1 rfl,z1 rfl,zp rfl (op_chr _ _ _ s18 _ underlying9 rfl rfl hv3),z4 rfl rfl,z8 hg6_4 rfl,zr' rfl (oM rfl),zr' rfl (oM rfl),zr' rfl (op_chr _ _ _ s18 _ underlying9 rfl rfl hv4),zr' rfl (oB rfl rfl),z3 false rfl,zz⟩ ?_
       exact hl34 _ (Option.some.inj h).symm
    ·have h := cond_f hb31 h
     refine ht_exit ?_
     refine pt_x_then ?_
     refine pt_x_then ?_
     refine pt_x_in ?_
     refine pt_pick [0, 1] (by kernel_rfl) (es' := [(_,_),(_,_)]) rfl ?_
     exact hl26 _ (ho28 _ (Option.some.inj h).symm).symm
theorem ok_path_Text (mx : Int) (p : T_Path) (r : (ByteArray × Int)) (h : Sh.path_Text p = some r) : FnG Tryz.prog (GL mx) 44 [.agg [.v (.bool p.Null), .v (.string p.Local), .v (.string p.Domain)]] (.tup [.v (.string r.1), .v (.int .i64 r.2)]) := by
  unfold Sh.path_Text at h
  refine fn_okG func44 rfl (zl rfl) rfl rfl fun g0 hn hio => ?_
  refine zgg hn [_,_,(1,.box 23 [vb p.Null,vs p.Local,vs p.Domain]),(2,vs z0),(3,vi 0)] [0,1] [1,2] [zq [0] 2 1,zq [] 3 2,zq [] 4 3] [(_,_),(_,_)] rfl ⟨zp rfl (op_box _ _ _ _ rfl rfl rfl),z2 rfl,z2 rfl,zz⟩ ?_
  refine ht_seq ?_
  refine ht_seq ?_
  obtain ⟨v1, hv1, h⟩ := bind_some h
  refine zg hn [_,_,(5,.agg [vb p.Null,vs p.Local,vs p.Domain]),(6,vi v1),(4,vi v1)] [0,1] [0,1,4] [zq [1] 2 5,zq [2,0] 3 6,zq [3] 4 4] [(_,_),(_,_),(_,_)] rfl ⟨zp rfl (op_loadA _ _ _ _ _ _ _ underlying23 rfl sz23 rfl rfl (zl rfl) rfl rfl),zp rfl (op_callG _ _ 20 58 _ _ rfl call58 rfl rfl (fun _ h => h) (ok_path_Check mx p _ hv1) rfl rfl),z2 rfl,zz⟩ ?_
  refine pt_then ?_
  refine zgg hn [_,_,_,(7,vi v1),(8,vb (v1 != 0))] [0,1,2] [0,1,2,4] [zq [2] 3 7,zq [3] 4 8] [(_,_),(_,_),(_,_),(_,_)] rfl ⟨z1 rfl,z4 rfl rfl,zz⟩ ?_
  refine ht_cond _ rfl (fun hb2 => ?_) (fun hb2 => ?_)
  ·have h := cond_t hb2 h
   refine zgg hn [_,_,_,_,(9,vi v1),(2,vs z0),(3,vi v1)] [0,1,2,3] [0,5,6] [zq [2] 4 9,zq [] 5 2,zq [4] 6 3] [(_,_),(_,_),(_,_)] rfl ⟨z1 rfl,z2 rfl,z2 rfl,zz⟩ ?_
   refine ht_ret ?_
   refine pt_pick [1, 2] (by kernel_rfl) (es' := [(_,_),(_,_)]) rfl ?_
   refine pt_r_then ?_
   obtain rfl := Option.some.inj h
   exact pt_ret hio rfl (.tmp _ _ (.tmp _ _ .nil)) rfl rfl
  ·have h := cond_f hb2 h
   refine ht_skip ?_
   refine pt_then (ht_seq ?_)
   refine zgg hn [_,_,_,_,(10,.ptr 1 0),(11,vb p.Null)] [0,1,2,3] [0,1,5] [zq [1] 4 10,zq [4,1] 5 11] [(_,_),(_,_),(_,_)] rfl ⟨zp rfl (oF underlying23 rfl sz4),zp rfl (oL underlying4 rfl),zz⟩ ?_
   refine ht_cond _ rfl (fun hb3 => ?_) (fun hb3 => ?_)
   ·have h := cond_t hb3 h
    refine zgg hn [_,_,_,(2,vs (⟨#[60,62]⟩ : ByteArray)),(3,vi 0)] [0,1,2] [0,3,4] [zq [] 3 2,zq [] 4 3] [(_,_),(_,_),(_,_)] rfl ⟨z2 rfl,z2 rfl,zz⟩ ?_
    refine ht_ret ?_
    refine pt_pick [1, 2] (by kernel_rfl) (es' := [(_,_),(_,_)]) rfl ?_
    refine pt_r_then ?_
    obtain rfl := Option.some.inj h
    exact pt_ret hio rfl (.tmp _ _ (.tmp _ _ .nil)) rfl rfl
   ·have h := cond_f hb3 h
    refine ht_skip ?_
    refine pt_then (ht_seq ?_)
    obtain ⟨v4, hv4, h⟩ := bind_some h
    obtain ⟨v5, hv5, h⟩ := bind_some h
    obtain ⟨v6, hv6, h⟩ := bind_some h
    obtain ⟨v7, hv7, h⟩ := bind_some h
    refine zg hn [_,_,_,(12,.ptr 1 1),(13,vs p.Local),(14,vs v4),(15,vs v5),(16,.ptr 1 2),(17,vs p.Domain),(18,vs v6),(19,vs v7),(2,vs v7),(3,vi 0)] [0,1,2] [0,11,12] [zq [1] 3 12,zq [3,1] 4 13,zq [4] 5 14,zq [5] 6 15,zq [1] 7 16,zq [7,1] 8 17,zq [6,8] 9 18,zq [9] 10 19,zq [10] 11 2,zq [] 12 3] [(_,_),(_,_),(_,_)] rfl ⟨zp rfl (oF underlying23 rfl sz9),zp rfl (oL underlying9 rfl),zp rfl (oB rfl (cat_ok hv4)),zp rfl (oB rfl (cat_ok hv5)),zp rfl (oF underlying23 rfl sz9),zp rfl (oL underlying9 rfl),zp rfl (oB rfl (cat_ok hv6)),zp rfl (oB rfl (cat_ok hv7)),z2 rfl,z2 rfl,zz⟩ ?_
    refine pt_then (ht_ret ?_)
    refine pt_pick [1, 2] (by kernel_rfl) (es' := [(_,_),(_,_)]) rfl ?_
    obtain rfl := Option.some.inj h
    exact pt_ret hio rfl (.tmp _ _ (.tmp _ _ .nil)) rfl rfl
theorem ok_strings_Builder_copyCheck (xs : List Value) : FnP Tryz.prog 59 [.hid (bldT 71 5 false xs)] [.hid (bldT 71 5 true xs)] (.tup []) :=
  bld_check (by decide) (fun b w h1 h2 h3 => Tryz.Builder_copyCheck_fresh b w h1 h2 h3) (fun b w h => Tryz.Builder_copyCheck_used b w h)
theorem ok_strings_Builder_WriteString (xs : List Int) (s : ByteArray) (r : List Int) (h : appO 1 xs (sbytes s) = some r) : FnP Tryz.prog 45 [.hid (bldT 71 5 false (List.map (Value.int .u8) xs)), .v (.string s)] [.hid (bldT 71 5 false (List.map (Value.int .u8) r))] (.tup [.v (.int .i64 (s.size : Int)), .v .nilIface]) := by
  refine FnP.bldW ?_
  refine fn_okP func45 rfl (zl rfl) rfl (zl rfl) fun args0 hargs0 g0 hn hio => ?_
  refine zgg hn [_,_,_,(4,vi 0),(5,.v .nilIface)] [0,1,2] [0,1,2] [zq [] 3 4,zq [] 4 5] [(_,_),(_,_),(_,_)] rfl ⟨z2 rfl,z2 rfl,zz⟩ ?_
  refine zgg hn [_,_,_,(6,.same (.slot 0)),(0,.hid (bldT 71 5 true (List.map (Value.int .u8) xs))),(7,.tup [])] [0,1,2] [4,1,2] [zq [] 3 6,⟨[3],[0],[4,5],[(.slot 7)]⟩] [(_,_),(_,_),(_,_)] rfl ⟨zp rfl (op_move_name _ _ _ rfl),zp rfl (op_callPS _ _ _ _ 7 59 [.tmp 6] [] _ _ _ rfl call59 rfl rfl rfl (ok_strings_Builder_copyCheck _) (zl rfl) rfl rfl rfl rfl rfl rfl rfl),zz⟩ ?_
  refine ht_bld_box 0 rfl ?_
  refine zgg hn (_::_::_::(8,.ptr 0 0)::(9,.ptr 0 0)::(10,.ptr 0 0)::(11,.ptr 0 1)::(12,.same (.cell 0 1))::(13,vs s)::(14,.fl (.own 5) 1 (List.map (Value.int .u8) r))::(0,.box 71 [.ptr 0 0,.any])::(15,.ptr 0 0)::(16,.ptr 0 1)::(0,.box 71 [.ptr 0 0,.fl (.own 5) 1 (List.map (Value.int .u8) r)])::[]) [0,1,2] [13,1,2] [zq [0] 3 8,zq [0] 4 9,zq [4,0] 5 10,zq [5,0] 6 11,zq [6,0] 7 12,zq [1] 8 13,⟨[7,8],[0],[10,9],[(.slot 14)]⟩,zq [3,10] 11 15,zq [11,10] 12 16,⟨[12],[7,9,10],[13],[.cell 0 1]⟩] [(_,_),(_,_),(_,_)] rfl ⟨z1 rfl,z1 rfl,zp rfl (op_nilCheck _ _ _ 0 0 rfl (by decide)),zp rfl (oF underlying71 rfl sz67),zp rfl (oL underlying67 rfl),z1 rfl,zp rfl (op_apps_cell _ _ _ _ _ _ el67 zr5 underlying9 rfl rfl (zl rfl) rfl rfl h rfl (by decide) rfl rfl),zp rfl (op_nilCheck _ _ _ 0 0 rfl (by decide)),zp rfl (oF underlying71 rfl sz67),zp rfl (LOp.drop [_] (op_store_take _ _ _ _ _ _ _ _ sz67 rfl rfl rfl (zl rfl) rfl rfl)),zz⟩ ?_
  refine zgg hn [_,_,_,(17,vs s),(18,vi (s.size : Int)),(4,vi (s.size : Int)),(5,.v .nilIface)] [0,1,2] [0,2,5,6] [zq [1] 3 17,zq [3] 4 18,zq [4] 5 4,zq [] 6 5] [(_,_),(_,_),(_,_),(_,_)] rfl ⟨z1 rfl,zp rfl (oN underlying9 rfl),z2 rfl,z2 rfl,zz⟩ ?_
  refine ht_ret ?_
  refine pt_bld 0 ?_
  refine pt_pick [2, 3, 0, 1] (by kernel_rfl) (es' := [(_,_),(_,_),(_,_),(_,_)]) rfl ?_
  exact pt_retP (es := [(4, .v (.int .i64 (s.size : Int))), (5, .v .nilIface)]) (posts := [.hid (bldT 71 5 true (List.map (Value.int .u8) r))]) hio rfl rfl (.tmp _ _ (.tmp _ _ .nil)) rfl rfl hargs0 rfl
theorem ok_strings_Builder_String (xs : List Int) (s : ByteArray) (h : strO xs = some s) : FnP Tryz.prog 47 [.hid (bldT 71 5 false (List.map (Value.int .u8) xs))] [] (.v (.string s)) := by
  refine fn_okP func47 rfl (zl rfl) rfl (zl rfl) fun args0 hargs0 g0 hn hio => ?_
  refine ht_bld_row 0 fun v => ?_
  refine zgg hn [_,(2,vs ByteArray.empty)] [0] [0] [zq [] 1 2] [(_,_)] rfl ⟨z2 rfl,zz⟩ ?_
  refine ht_seq ?_
  refine ht_anyR (by kernel_rfl) hn (El := [_, (3, .same (.slot 0)), (4, .ptr 0 0), (5, .ptr 0 1), (6, .v v), (7, .hid (usdT v)), (8, .same (.slot 0)), (9, .ptr 0 0), (10, .ptr 0 1), (11, .v v), (12, .v (.int .i64 ((List.map (Value.int .u8) xs).length : Int))), (13, .v (.string s)), (2, .v (.string s))]) (init := [0]) (fin := [12]) (sps := [zq [] 1 3, zq [1,0] 2 4, zq [2] 3 5, zq [3,0] 4 6, zq [4,0] 5 7, zq [] 6 8, zq [6,0] 7 9, zq [7] 8 10, zq [8,0] 9 11, zq [9,0] 10 12, ⟨[5, 10], [0], [11], [(.slot 13)]⟩, zq [11] 12 2]) (es' := [(2, .v (.string s))]) (by kernel_rfl) rfl rfl ⟨zp rfl (op_move_name _ _ _ rfl),zp rfl (op_nilCheck_bld _ _ _ 0 rfl rfl (by decide)),zp rfl (oF underlying71 rfl sz67),zp rfl (op_load_bld _ _ _ 0 underlying67 rfl rfl rfl),zp rfl (op_usd _ _ 0 underlying87 rfl rfl),zp rfl (op_move_name _ _ _ rfl),zp rfl (op_nilCheck_bld _ _ _ 0 rfl rfl (by decide)),zp rfl (oF underlying71 rfl sz67),zp rfl (op_load_bld _ _ _ 0 underlying67 rfl rfl rfl),zp rfl (op_len_bld _ _ 0 underlying67 rfl rfl),zp rfl (op_ustr _ _ 0 underlying87 (by kernel_rfl) rfl rfl h),z2 rfl,zz⟩ ?_
  refine pt_then (ht_ret ?_)
  exact pt_retP (es := [(2, .v (.string s))]) (posts := []) hio rfl rfl (.tmp _ _ .nil) rfl rfl hargs0 rfl
theorem ok_verb_format (mx : Int) (c : T_Cmd) (r : ByteArray) (h : Sh.verb_format c = some r) : FnG Tryz.prog (GL mx) 29 [.agg [.v (.int .i64 c.Kind), .v (.string c.Text), .v (.bool c.Path.Null), .v (.string c.Path.Local), .v (.string c.Path.Domain), .fl .shr 2 (List.flatten (List.map T_Param.enc c.Params))]] (.v (.string r)) := by
  unfold Sh.verb_format at h
  refine fn_okG func29 rfl (zl rfl) rfl rfl fun g0 hn hio => ?_
  refine zgg hn [_,_,(1,.box 26 [vi c.Kind,vs c.Text,vb c.Path.Null,vs c.Path.Local,vs c.Path.Domain,.fl .shr 2 (List.flatten (List.map T_Param.enc c.Params))]),(2,vs z0)] [0,1] [1,2] [zq [0] 2 1,zq [] 3 2] [(_,_),(_,_)] rfl ⟨zp rfl (op_box _ _ _ _ rfl rfl rfl),z2 rfl,zz⟩ ?_
  refine ht_seq ?_
  refine zgg hn [_,_,(8,.ptr 1 0),(9,vi c.Kind)] [0,1] [0,1,3] [zq [1] 2 8,zq [2,1] 3 9] [(_,_),(_,_),(_,_)] rfl ⟨zp rfl (oF underlying26 rfl sz3),zp rfl (oL underlying3 rfl),zz⟩ ?_
  refine ht_block ?_
  refine zgg hn [_,_,_,(11,vb (c.Kind == 1)),(10,vb (c.Kind == 1))] [0,1,2] [0,1,2,4] [zq [2] 3 11,zq [3] 4 10] [(_,_),(_,_),(_,_),(_,_)] rfl ⟨z4 rfl rfl,z2 rfl,zz⟩ ?_
  refine ht_cond _ rfl (fun hb1 => ?_) (fun hb1 => ?_)
  ·have h := cond_t hb1 h
   refine ht_seq ?_
   obtain ⟨v2, hv2, h⟩ := bind_some h
   refine zg hn [_,_,_,_,(12,.ptr 1 1),(13,vs c.Text),(14,vs v2),(2,vs v2)] [0,1,2,3] [0,7] [zq [1] 4 12,zq [4,1] 5 13,zq [5] 6 14,zq [6] 7 2] [(_,_),(_,_)] rfl ⟨zp rfl (oF underlying26 rfl sz9),zp rfl (oL underlying9 rfl),zp rfl (oB rfl (cat_ok hv2)),z2 rfl,zz⟩ ?_
   refine pt_then (ht_ret ?_)
   refine pt_pick [1] (by kernel_rfl) (es' := [(_,_)]) rfl ?_
   refine pt_r_in ?_
   refine pt_r_then ?_
   obtain rfl := Option.some.inj h
   exact pt_ret hio rfl (.tmp _ _ .nil) rfl rfl
  ·have h := cond_f hb1 h
   refine ht_seq ?_
   refine ht_joinS h (fun (s4 : Bool) => [(75, .glob (GL mx)), (1, .box 26 [.v (.int .i64 c.Kind), .v (.string c.Text), .v (.bool c.Path.Null), .v (.string c.Path.Local), .v (.string c.Path.Domain), .fl .shr 2 (List.flatten (List.map T_Param.enc c.Params))]), (9, .v (.int .i64 c.Kind)), (15, .v (.bool s4))]) ?_ ?_
   ·rintro s4 h
    refine pt_then ?_
    refine ht_cond _ rfl (fun hb9 => ?_) (fun hb9 => ?_)
    ·have h := cond_t hb9 h
     refine ht_seq ?_
     obtain ⟨v10, hv10, h⟩ := bind_some h
     refine zg hn [_,_,_,_,(19,.ptr 1 2),(20,.agg [vb c.Path.Null,vs c.Path.Local,vs c.Path.Domain]),(21,.tup [vs v10.1,vi v10.2]),(18,.tup [vs v10.1,vi v10.2]),(22,vs v10.1),(23,vi v10.2),(3,vs v10.1),(4,vi v10.2)] [0,1,2,3] [0,1,10] [zq [1] 4 19,zq [4,1] 5 20,zq [5,0] 6 21,⟨[],[6],[7],[(.slot 18)]⟩,zq [7] 8 22,zq [7] 9 23,zq [8] 10 3,zq [9] 11 4] [(_,_),(_,_),(_,_)] rfl ⟨zp rfl (oF underlying26 rfl sz23),zp rfl (op_loadA _ _ _ _ _ _ _ underlying23 rfl sz23 rfl rfl (zl rfl) rfl rfl),zp rfl (op_callG _ _ 75 44 _ _ rfl call44 rfl rfl (fun _ h => h) (ok_path_Text mx (T_Path.mk c.Path.Null c.Path.Local c.Path.Domain) _ hv10) rfl rfl),zp rfl (op_move_take _ _ _ _ rfl),zp rfl (oE rfl),zp rfl (oE rfl),z2 rfl,z2 rfl,zz⟩ ?_
     refine pt_then ?_
     refine zgg hn [_,_,_,(5,.hid (bldT 71 5 false (List.map (Value.int .u8) ([] : List Int))))] [0,1,2] [0,1,2,3] [zq [] 3 5] [(_,_),(_,_),(_,_),(_,_)] rfl ⟨zp rfl (LOp.bld0 (op_alloc _ _ zr71)),zz⟩ ?_
     refine ht_seq ?_
     obtain ⟨v11, hv11, h⟩ := bind_some h
     obtain ⟨v12, hv12, h⟩ := bind_some h
     obtain ⟨v13, hv13, h⟩ := bind_some h
     refine zg hn [_,_,_,_,(24,.ptr 1 0),(25,vi c.Kind),(26,vs v11),(27,vs v10.1),(28,vs v12),(29,.tup [vi (v12.size : Int),.v (.nilIface)]),(5,.hid (bldT 71 5 false (List.map (Value.int .u8) v13)))] [0,1,2,3] [0,1,10] [zq [1] 4 24,zq [4,1] 5 25,zq [5] 6 26,zq [2] 7 27,zq [6,7] 8 28,⟨[8],[3],[10,9],[(.slot 29)]⟩] [(_,_),(_,_),(_,_)] rfl ⟨zp rfl (oF underlying26 rfl sz3),zp rfl (oL underlying3 rfl),zp rfl (op_call _ _ 46 _ _ rfl call46 rfl (ok_verb_opening c.Kind _ hv11) rfl rfl),z1 rfl,zp rfl (oB rfl (cat_ok hv12)),zp rfl (op_callPS _ _ _ _ 29 45 [.tmp 5] [.tmp 28] _ _ _ rfl call45 rfl rfl rfl (ok_strings_Builder_WriteString ([] : List Int) v12 _ hv13) (zl rfl) rfl rfl rfl rfl rfl rfl rfl),zz⟩ ?_
     refine pt_then (ht_seq ?_)
     refine zgg hn [_,_,_,(30,.ptr 1 5),(31,.fl .shr 2 (List.flatten (List.map T_Param.enc c.Params))),(32,vi (c.Params.length : Int)),(33,vi 0)] [0,1,2] [0,2,4,5,6] [zq [1] 3 30,zq [3,1] 4 31,zq [4] 5 32,zq [] 6 33] [(_,_),(_,_),(_,_),(_,_),(_,_)] rfl ⟨zp rfl (oF underlying26 rfl sz24),zp rfl (oL underlying24 rfl),zp rfl (op_len_fl _ _ _ underlying24 rfl (by decide) (flat_len T_Param.len _)),z1 rfl,zz⟩ ?_
     refine ht_loopS h (fun ((s25, s26) : (List Int) × Int) => [(75, .glob (GL mx)), (5, .hid (bldT 71 5 false (List.map (Value.int .u8) s25))), (31, .fl .shr 2 (List.flatten (List.map T_Param.enc c.Params))), (32, .v (.int .i64 (c.Params.length : Int))), (33, .v (.int .i64 s26))]) (fun (s28 : (List Int)) => [(75, .glob (GL mx)), (5, .hid (bldT 71 5 false (List.map (Value.int .u8) s28)))]) ?_ ?_
     ·rintro s28 h
      refine pt_then (ht_seq ?_)
      obtain ⟨v36, hv36, h⟩ := bind_some h
      refine zg hn [_,_,(46,vs v36),(2,vs v36)] [0,1] [0,3] [⟨[],[1],[2],[(.slot 46)]⟩,zq [2] 3 2] [(_,_),(_,_)] rfl ⟨zp rfl (op_callPS _ _ _ _ 46 47 [.tmp 5] [] _ _ _ rfl call47 rfl rfl rfl (ok_strings_Builder_String s28 _ hv36) (zl rfl) rfl rfl rfl rfl rfl rfl rfl),z2 rfl,zz⟩ ?_
      refine pt_then (ht_ret ?_)
      refine pt_pick [1] (by kernel_rfl) (es' := [(_,_)]) rfl ?_
      refine pt_r_in ?_
      refine pt_r_then ?_
      obtain rfl := Option.some.inj h
      exact pt_ret hio rfl (.tmp _ _ .nil) rfl rfl
     ·rintro u29 hl30 hr31 ⟨s25, s26⟩ rr34 h ho32
      refine zgg hn [_,_,_,_,_,(34,vb (decide (s26 < (c.Params.length : Int))))] [0,1,2,3,4] [0,1,2,3,4,5] [zq [4,3] 5 34] [(_,_),(_,_),(_,_),(_,_),(_,_),(_,_)] rfl ⟨z4 rfl rfl,zz⟩ ?_
      refine ht_seq ?_
      refine ht_cond _ rfl (fun hb35 => ?_) (fun hb35 => ?_)
      ·have h := cond_t hb35 h
       refine ht_skip ?_
       refine pt_then (ht_seq ?_)
       refine ht_block ?_
       refine ht_seq ?_
       obtain ⟨v15, hv15, h⟩ := bind_some h
       obtain ⟨v16, hv16, h⟩ := bind_some h
       refine zg hn [_,_,_,_,_,_,(35,.eref (.slot 31) (v15 * 2)),(36,.agg [vs v16.Key,vs v16.Val]),(7,.box 47 [vs z0,vs z0]),(7,.box 47 [vs v16.Key,vs v16.Val])] [0,1,2,3,4,5] [0,1,2,3,4,9] [zq [2,4] 6 35,zq [6,2] 7 36,zq [] 8 7,⟨[7],[8],[9],[.cell 7 0,.cell 7 1]⟩] [(_,_),(_,_),(_,_),(_,_),(_,_),(_,_)] rfl ⟨zp rfl (op_ix _ _ _ _ _ _ _ _ underlying24 sz47 (by decide) rfl rfl rfl (ix_ok hv15).1 (flat_lt T_Param.len (ix_ok hv15).2) rfl),zp rfl (op_load_eA _ _ _ _ _ _ _ underlying47 rfl sz47 rfl rfl (flat_get T_Param.len hv16) rfl (by decide)),zp rfl (op_alloc _ _ zr47),zp rfl (oS sz47 rfl),zz⟩ ?_
       refine pt_then ?_
       obtain ⟨v17, hv17, h⟩ := bind_some h
       obtain ⟨v18, hv18, h⟩ := bind_some h
       obtain ⟨v19, hv19, h⟩ := bind_some h
       obtain ⟨v20, hv20, h⟩ := bind_some h
       refine zg hn (_::_::_::_::_::_::(37,.ptr 7 0)::(38,vs v16.Key)::(39,vs v17)::(40,vs v18)::(41,.ptr 7 1)::(42,vs v16.Val)::(43,vs v19)::(44,.tup [vi (v19.size : Int),.v (.nilIface)])::(5,.hid (bldT 71 5 false (List.map (Value.int .u8) v20)))::[]) [0,1,2,3,4,5] [0,14,2,3,4] [zq [5] 6 37,zq [6,5] 7 38,zq [7] 8 39,zq [8] 9 40,zq [5] 10 41,zq [10,5] 11 42,zq [9,11] 12 43,⟨[12],[1],[14,13],[(.slot 44)]⟩] [(_,_),(_,_),(_,_),(_,_),(_,_)] rfl ⟨zp rfl (oF underlying47 rfl sz9),zp rfl (oL underlying9 rfl),zp rfl (oB rfl (cat_ok hv17)),zp rfl (oB rfl (cat_ok hv18)),zp rfl (oF underlying47 rfl sz9),zp rfl (oL underlying9 rfl),zp rfl (oB rfl (cat_ok hv19)),zp rfl (op_callPS _ _ _ _ 44 45 [.tmp 5] [.tmp 43] _ _ _ rfl call45 rfl rfl rfl (ok_strings_Builder_WriteString s25 v19 _ hv20) (zl rfl) rfl rfl rfl rfl rfl rfl rfl),zz⟩ ?_
       refine pt_inb ?_
       refine pt_then ?_
       obtain ⟨v21, hv21, h⟩ := bind_some h
       refine zg hn [_,_,_,_,_,(45,vi v21),(33,vi v21)] [0,1,2,3,4] [0,1,2,3,6] [zq [4] 5 45,⟨[5],[4],[6],[(.slot 33)]⟩] [(_,_),(_,_),(_,_),(_,_),(_,_)] rfl ⟨zp rfl (oB rfl (ibind (f := Value.int .i64) (Option.some.inj hv21))),zp rfl (LOp.drop [_] (oM rfl)),zz⟩ ?_
       exact pt_next _ (Option.some.inj h).symm rfl
      ·have h := cond_f hb35 h
       refine ht_exit ?_
       refine pt_x_then ?_
       refine pt_x_then ?_
       refine pt_x_in ?_
       refine pt_pick [0, 1] (by kernel_rfl) (es' := [(_,_),(_,_)]) rfl ?_
       exact hl30 _ (ho32 _ (Option.some.inj h).symm).symm
    ·have h := cond_f hb9 h
     refine zgg hn [_,_,_,_,(48,vb (c.Kind == 4)),(47,vb (c.Kind == 4))] [0,1,2,3] [0,1,2,5] [zq [2] 4 48,zq [4] 5 47] [(_,_),(_,_),(_,_),(_,_)] rfl ⟨z4 rfl rfl,z2 rfl,zz⟩ ?_
     refine ht_cond _ rfl (fun hb37 => ?_) (fun hb37 => ?_)
     ·have h := cond_t hb37 h
      refine zgg hn [_,_,_,_,(2,vs (⟨#[68,65,84,65]⟩ : ByteArray))] [0,1,2,3] [0,4] [zq [] 4 2] [(_,_),(_,_)] rfl ⟨z2 rfl,zz⟩ ?_
      refine ht_ret ?_
      refine pt_pick [1] (by kernel_rfl) (es' := [(_,_)]) rfl ?_
      refine pt_r_in ?_
      refine pt_r_then ?_
      obtain rfl := Option.some.inj h
      exact pt_ret hio rfl (.tmp _ _ .nil) rfl rfl
     ·have h := cond_f hb37 h
      refine zgg hn [_,_,_,_,(50,vb (c.Kind == 5)),(49,vb (c.Kind == 5))] [0,1,2,3] [0,1,2,5] [zq [2] 4 50,zq [4] 5 49] [(_,_),(_,_),(_,_),(_,_)] rfl ⟨z4 rfl rfl,z2 rfl,zz⟩ ?_
      refine ht_cond _ rfl (fun hb38 => ?_) (fun hb38 => ?_)
      ·have h := cond_t hb38 h
       refine zgg hn [_,_,_,_,(2,vs (⟨#[82,83,69,84]⟩ : ByteArray))] [0,1,2,3] [0,4] [zq [] 4 2] [(_,_),(_,_)] rfl ⟨z2 rfl,zz⟩ ?_
       refine ht_ret ?_
       refine pt_pick [1] (by kernel_rfl) (es' := [(_,_)]) rfl ?_
       refine pt_r_in ?_
       refine pt_r_then ?_
       obtain rfl := Option.some.inj h
       exact pt_ret hio rfl (.tmp _ _ .nil) rfl rfl
      ·have h := cond_f hb38 h
       refine zgg hn [_,_,_,_,(52,vb (c.Kind == 6)),(51,vb (c.Kind == 6))] [0,1,2,3] [0,1,2,5] [zq [2] 4 52,zq [4] 5 51] [(_,_),(_,_),(_,_),(_,_)] rfl ⟨z4 rfl rfl,z2 rfl,zz⟩ ?_
       refine ht_cond _ rfl (fun hb39 => ?_) (fun hb39 => ?_)
       ·have h := cond_t hb39 h
        refine ht_seq ?_
        obtain ⟨v40, hv40, h⟩ := bind_some h
        refine zg hn [_,_,_,_,(53,.ptr 1 1),(54,vs c.Text),(55,vs v40),(2,vs v40)] [0,1,2,3] [0,7] [zq [1] 4 53,zq [4,1] 5 54,zq [5] 6 55,zq [6] 7 2] [(_,_),(_,_)] rfl ⟨zp rfl (oF underlying26 rfl sz9),zp rfl (oL underlying9 rfl),zp rfl (oB rfl (cat_ok hv40)),z2 rfl,zz⟩ ?_
        refine pt_then (ht_ret ?_)
        refine pt_pick [1] (by kernel_rfl) (es' := [(_,_)]) rfl ?_
        refine pt_r_in ?_
        refine pt_r_then ?_
        obtain rfl := Option.some.inj h
        exact pt_ret hio rfl (.tmp _ _ .nil) rfl rfl
       ·have h := cond_f hb39 h
        refine zgg hn [_,_,_,_,(57,vb (c.Kind == 7)),(56,vb (c.Kind == 7))] [0,1,2,3] [0,1,2,5] [zq [2] 4 57,zq [4] 5 56] [(_,_),(_,_),(_,_),(_,_)] rfl ⟨z4 rfl rfl,z2 rfl,zz⟩ ?_
        refine ht_cond _ rfl (fun hb41 => ?_) (fun hb41 => ?_)
        ·have h := cond_t hb41 h
         refine zgg hn [_,_,_,_,(2,vs (⟨#[78,79,79,80]⟩ : ByteArray))] [0,1,2,3] [0,4] [zq [] 4 2] [(_,_),(_,_)] rfl ⟨z2 rfl,zz⟩ ?_
         refine ht_ret ?_
         refine pt_pick [1] (by kernel_rfl) (es' := [(_,_)]) rfl ?_
         refine pt_r_in ?_
         refine pt_r_then ?_
         obtain rfl := Option.some.inj h
         exact pt_ret hio rfl (.tmp _ _ .nil) rfl rfl
        ·have h := cond_f hb41 h
         refine zgg hn [_,_,_,_,(59,vb (c.Kind == 8)),(58,vb (c.Kind == 8))] [0,1,2,3] [0,1,2,5] [zq [2] 4 59,zq [4] 5 58] [(_,_),(_,_),(_,_),(_,_)] rfl ⟨z4 rfl rfl,z2 rfl,zz⟩ ?_
         refine ht_cond _ rfl (fun hb42 => ?_) (fun hb42 => ?_)
         ·have h := cond_t hb42 h
          refine zgg hn [_,_,_,_,(2,vs (⟨#[81,85,73,84]⟩ : ByteArray))] [0,1,2,3] [0,4] [zq [] 4 2] [(_,_),(_,_)] rfl ⟨z2 rfl,zz⟩ ?_
          refine ht_ret ?_
          refine pt_pick [1] (by kernel_rfl) (es' := [(_,_)]) rfl ?_
          refine pt_r_in ?_
          refine pt_r_then ?_
          obtain rfl := Option.some.inj h
          exact pt_ret hio rfl (.tmp _ _ .nil) rfl rfl
         ·have h := cond_f hb42 h
          refine zgg hn [_,_,_,_,(61,vb (c.Kind == 9)),(60,vb (c.Kind == 9))] [0,1,2,3] [0,1,2,5] [zq [2] 4 61,zq [4] 5 60] [(_,_),(_,_),(_,_),(_,_)] rfl ⟨z4 rfl rfl,z2 rfl,zz⟩ ?_
          refine ht_cond _ rfl (fun hb43 => ?_) (fun hb43 => ?_)
          ·have h := cond_t hb43 h
           refine ht_seq ?_
           obtain ⟨v44, hv44, h⟩ := bind_some h
           refine zg hn [_,_,_,_,(62,.ptr 1 1),(63,vs c.Text),(64,vs v44),(2,vs v44)] [0,1,2,3] [0,7] [zq [1] 4 62,zq [4,1] 5 63,zq [5] 6 64,zq [6] 7 2] [(_,_),(_,_)] rfl ⟨zp rfl (oF underlying26 rfl sz9),zp rfl (oL underlying9 rfl),zp rfl (oB rfl (cat_ok hv44)),z2 rfl,zz⟩ ?_
           refine pt_then (ht_ret ?_)
           refine pt_pick [1] (by kernel_rfl) (es' := [(_,_)]) rfl ?_
           refine pt_r_in ?_
           refine pt_r_then ?_
           obtain rfl := Option.some.inj h
           exact pt_ret hio rfl (.tmp _ _ .nil) rfl rfl
          ·have h := cond_f hb43 h
           refine zgg hn [_,_,_,_,(66,vb (c.Kind == 10)),(65,vb (c.Kind == 10))] [0,1,2,3] [0,1,2,5] [zq [2] 4 66,zq [4] 5 65] [(_,_),(_,_),(_,_),(_,_)] rfl ⟨z4 rfl rfl,z2 rfl,zz⟩ ?_
           refine ht_cond _ rfl (fun hb45 => ?_) (fun hb45 => ?_)
           ·have h := cond_t hb45 h
            refine zgg hn [_,_,_,_,(2,vs (⟨#[65,85,84,72,32,67,82,65,77,45,77,68,53]⟩ : ByteArray))] [0,1,2,3] [0,4] [zq [] 4 2] [(_,_),(_,_)] rfl ⟨z2 rfl,zz⟩ ?_
            refine ht_ret ?_
            refine pt_pick [1] (by kernel_rfl) (es' := [(_,_)]) rfl ?_
            refine pt_r_in ?_
            refine pt_r_then ?_
            obtain rfl := Option.some.inj h
            exact pt_ret hio rfl (.tmp _ _ .nil) rfl rfl
           ·have h := cond_f hb45 h
            refine zgg hn [_,_,_,_,(68,vb (c.Kind == 11)),(67,vb (c.Kind == 11))] [0,1,2,3] [0,1,5] [zq [2] 4 68,zq [4] 5 67] [(_,_),(_,_),(_,_)] rfl ⟨z4 rfl rfl,z2 rfl,zz⟩ ?_
            refine ht_cond _ rfl (fun hb46 => ?_) (fun hb46 => ?_)
            ·have h := cond_t hb46 h
             refine ht_seq ?_
             refine zgg hn [_,_,_,(69,.ptr 1 1),(70,vs c.Text),(71,vb (c.Text.toList == z0.toList))] [0,1,2] [0,1,5] [zq [1] 3 69,zq [3,1] 4 70,zq [4] 5 71] [(_,_),(_,_),(_,_)] rfl ⟨zp rfl (oF underlying26 rfl sz9),zp rfl (oL underlying9 rfl),z4 rfl rfl,zz⟩ ?_
             refine ht_cond _ rfl (fun hb47 => ?_) (fun hb47 => ?_)
             ·have h := cond_t hb47 h
              refine zgg hn [_,_,_,(2,vs (⟨#[65,84,82,78]⟩ : ByteArray))] [0,1,2] [0,3] [zq [] 3 2] [(_,_),(_,_)] rfl ⟨z2 rfl,zz⟩ ?_
              refine ht_ret ?_
              refine pt_pick [1] (by kernel_rfl) (es' := [(_,_)]) rfl ?_
              refine pt_r_then ?_
              refine pt_r_in ?_
              refine pt_r_then ?_
              obtain rfl := Option.some.inj h
              exact pt_ret hio rfl (.tmp _ _ .nil) rfl rfl
             ·have h := cond_f hb47 h
              refine ht_skip ?_
              refine pt_then (ht_seq ?_)
              obtain ⟨v48, hv48, h⟩ := bind_some h
              refine zg hn [_,_,_,(72,.ptr 1 1),(73,vs c.Text),(74,vs v48),(2,vs v48)] [0,1,2] [0,6] [zq [1] 3 72,zq [3,1] 4 73,zq [4] 5 74,zq [5] 6 2] [(_,_),(_,_)] rfl ⟨zp rfl (oF underlying26 rfl sz9),zp rfl (oL underlying9 rfl),zp rfl (oB rfl (cat_ok hv48)),z2 rfl,zz⟩ ?_
              refine pt_then (ht_ret ?_)
              refine pt_pick [1] (by kernel_rfl) (es' := [(_,_)]) rfl ?_
              refine pt_r_in ?_
              refine pt_r_then ?_
              obtain rfl := Option.some.inj h
              exact pt_ret hio rfl (.tmp _ _ .nil) rfl rfl
            ·have h := cond_f hb46 h
             refine ht_skip ?_
             refine pt_inb ?_
             refine pt_then ?_
             refine zgg hn [_,_,_,(2,vs z0)] [0,1,2] [0,3] [zq [] 3 2] [(_,_),(_,_)] rfl ⟨z2 rfl,zz⟩ ?_
             refine ht_ret ?_
             refine pt_pick [1] (by kernel_rfl) (es' := [(_,_)]) rfl ?_
             obtain rfl := Option.some.inj h
             exact pt_ret hio rfl (.tmp _ _ .nil) rfl rfl
   ·intro u5 h hl6 hr7
    refine zgg hn [_,_,_,_,(16,vb (c.Kind == 2)),(15,vb (c.Kind == 2))] [0,1,2,3] [0,1,2,5] [zq [2] 4 16,zq [4] 5 15] [(_,_),(_,_),(_,_),(_,_)] rfl ⟨z4 rfl rfl,z2 rfl,zz⟩ ?_
    refine ht_cond _ rfl (fun hb8 => ?_) (fun hb8 => ?_)
    ·have h := cond_t hb8 h
     refine ht_skip ?_
     exact hl6 _ (Option.some.inj h).symm
    ·have h := cond_f hb8 h
     refine zg hn [_,_,_,_,(17,vb (c.Kind == 3)),(15,vb (c.Kind == 3))] [0,1,2,3] [0,1,2,5] [zq [2] 4 17,⟨[4],[3],[5],[(.slot 15)]⟩] [(_,_),(_,_),(_,_),(_,_)] rfl ⟨z4 rfl rfl,zp rfl (LOp.drop [_] (op_assign _ _ _ _ rfl rfl)),zz⟩ ?_
     exact hl6 _ (Option.some.inj h).symm
theorem ok_slices_Equal_api_Param_api_Param (p_s1 : (List T_Param)) (p_s2 : (List T_Param)) (r : Bool) (h : Sh.slices_Equal_api_Param_api_Param p_s1 p_s2 = some r) : FnOK Tryz.prog 48 [.fl .shr 2 (List.flatten (List.map T_Param.enc p_s1)), .fl .shr 2 (List.flatten (List.map T_Param.enc p_s2))] (.v (.bool r)) := by
  unfold Sh.slices_Equal_api_Param_api_Param at h
  refine fn_ok func48 rfl (zl rfl) rfl rfl fun g0 hn hio => ?_
  refine zgg hn [_,_,(4,vb false)] [0,1] [0,1] [zq [] 2 4] [(_,_),(_,_)] rfl ⟨z2 rfl,zz⟩ ?_
  refine ht_seq ?_
  refine zgg hn [_,_,(6,.fl .shr 2 (List.flatten (List.map T_Param.enc p_s1))),(7,vi (p_s1.length : Int)),(8,.fl .shr 2 (List.flatten (List.map T_Param.enc p_s2))),(9,vi (p_s2.length : Int)),(10,vb ((p_s1.length : Int) != (p_s2.length : Int)))] [0,1] [0,1,6] [zq [0] 2 6,zq [2] 3 7,zq [1] 4 8,zq [4] 5 9,zq [3,5] 6 10] [(_,_),(_,_),(_,_)] rfl ⟨z1 rfl,zp rfl (op_len_fl _ _ _ underlying24 rfl (by decide) (flat_len T_Param.len _)),z1 rfl,zp rfl (op_len_fl _ _ _ underlying24 rfl (by decide) (flat_len T_Param.len _)),z4 rfl rfl,zz⟩ ?_
  refine ht_cond _ rfl (fun hb1 => ?_) (fun hb1 => ?_)
  ·have h := cond_t hb1 h
   refine zgg hn [_,_,_,(4,vb false)] [0,1,2] [3] [zq [] 3 4] [(_,_)] rfl ⟨z2 rfl,zz⟩ ?_
   refine ht_ret ?_
   refine pt_r_then ?_
   obtain rfl := Option.some.inj h
   exact pt_ret hio rfl (.tmp _ _ .nil) rfl rfl
  ·have h := cond_f hb1 h
   refine ht_skip ?_
   refine pt_then (ht_seq ?_)
   refine zgg hn [_,_,_,(11,.fl .shr 2 (List.flatten (List.map T_Param.enc p_s1))),(12,vi (p_s1.length : Int)),(13,vi 0)] [0,1,2] [0,1,4,5] [zq [0] 3 11,zq [3] 4 12,zq [] 5 13] [(_,_),(_,_),(_,_),(_,_)] rfl ⟨z1 rfl,zp rfl (op_len_fl _ _ _ underlying24 rfl (by decide) (flat_len T_Param.len _)),z1 rfl,zz⟩ ?_
   refine ht_loopS h (fun (s12 : Int) => [(0, .fl .shr 2 (List.flatten (List.map T_Param.enc p_s1))), (1, .fl .shr 2 (List.flatten (List.map T_Param.enc p_s2))), (12, .v (.int .i64 (p_s1.length : Int))), (13, .v (.int .i64 s12))]) (fun (() : Unit) => []) ?_ ?_
   ·rintro ⟨⟩ h
    refine pt_then ?_
    refine zgg hn [(4,vb true)] [] [0] [zq [] 0 4] [(_,_)] rfl ⟨z2 rfl,zz⟩ ?_
    refine ht_ret ?_
    obtain rfl := Option.some.inj h
    exact pt_ret hio rfl (.tmp _ _ .nil) rfl rfl
   ·rintro u15 hl16 hr17 s12 rr20 h ho18
    refine zgg hn [_,_,_,_,(14,vb (decide (s12 < (p_s1.length : Int))))] [0,1,2,3] [0,1,2,3,4] [zq [3,2] 4 14] [(_,_),(_,_),(_,_),(_,_),(_,_)] rfl ⟨z4 rfl rfl,zz⟩ ?_
    refine ht_seq ?_
    refine ht_cond _ rfl (fun hb21 => ?_) (fun hb21 => ?_)
    ·have h := cond_t hb21 h
     refine ht_skip ?_
     refine pt_then (ht_seq ?_)
     refine ht_block ?_
     refine zgg hn [_,_,_,_,_,(15,vi s12),(5,vi s12)] [0,1,2,3,4] [0,1,2,3,6] [zq [3] 5 15,zq [5] 6 5] [(_,_),(_,_),(_,_),(_,_),(_,_)] rfl ⟨z1 rfl,z2 rfl,zz⟩ ?_
     refine ht_seq ?_
     obtain ⟨v3, hv3, h⟩ := bind_some h
     obtain ⟨v4, hv4, h⟩ := bind_some h
     obtain ⟨v5, hv5, h⟩ := bind_some h
     obtain ⟨v6, hv6, h⟩ := bind_some h
     refine ht_anyR (by kernel_rfl) hn (El := [_, _, _, _, _, (16, .fl .shr 2 (List.flatten (List.map T_Param.enc p_s1))), (17, .v (.int .i64 s12)), (18, .eref (.slot 16) (v3 * 2)), (19, .agg [.v (.string v4.Key), .v (.string v4.Val)]), (20, .fl .shr 2 (List.flatten (List.map T_Param.enc p_s2))), (21, .v (.int .i64 s12)), (22, .eref (.slot 20) (v5 * 2)), (23, .agg [.v (.string v6.Key), .v (.string v6.Val)]), (24, .v (.bool ((!((v4.Key.toList == v6.Key.toList) && ((v4.Val.toList == v6.Val.toList) && true))))))]) (init := [0, 1, 2, 3, 4]) (fin := [0, 1, 2, 3, 13]) (sps := [zq [0] 5 16, zq [4] 6 17, zq [5,6] 7 18, zq [7,5] 8 19, zq [1] 9 20, zq [4] 10 21, zq [9,10] 11 22, zq [11,9] 12 23, zq [8,12] 13 24]) (es' := [(_,_),(_,_),(_,_),(_,_),(24, .v (.bool ((!((v4.Key.toList == v6.Key.toList) && ((v4.Val.toList == v6.Val.toList) && true))))))]) (by kernel_rfl) rfl rfl ⟨z1 rfl,z1 rfl,zp rfl (op_ix _ _ _ _ _ _ _ _ underlying24 sz47 (by decide) rfl rfl rfl (ix_ok hv3).1 (flat_lt T_Param.len (ix_ok hv3).2) rfl),zp rfl (op_load_eA _ _ _ _ _ _ _ underlying47 rfl sz47 rfl rfl (flat_get T_Param.len hv4) rfl (by decide)),z1 rfl,z1 rfl,zp rfl (op_ix _ _ _ _ _ _ _ _ underlying24 sz47 (by decide) rfl rfl rfl (ix_ok hv5).1 (flat_lt T_Param.len (ix_ok hv5).2) rfl),zp rfl (op_load_eA _ _ _ _ _ _ _ underlying47 rfl sz47 rfl rfl (flat_get T_Param.len hv6) rfl (by decide)),zp rfl (op_eq_st _ _ [.string v4.Key, .string v4.Val] [.string v6.Key, .string v6.Val] (((v4.Key.toList == v6.Key.toList) && ((v4.Val.toList == v6.Val.toList) && true))) _ true (by kernel_rfl) (by kernel_rfl) (by kernel_rfl) (by kernel_rfl) (by kernel_rfl) rfl rfl rfl rfl (by kernel_rfl) rfl),zz⟩ ?_
     refine pt_then ?_
     refine ht_cond _ rfl (fun hb22 => ?_) (fun hb22 => ?_)
     ·have h := cond_t hb22 h
      refine zgg hn [_,_,_,_,_,(4,vb false)] [0,1,2,3,4] [5] [zq [] 5 4] [(_,_)] rfl ⟨z2 rfl,zz⟩ ?_
      refine ht_ret ?_
      refine pt_r_in ?_
      refine pt_r_then ?_
      refine pt_r_then ?_
      refine pt_r_in ?_
      refine pt_r_then ?_
      have h := hr17 _ (ho18 _ (Option.some.inj h).symm).symm
      obtain rfl := Option.some.inj h
      exact pt_ret hio rfl (.tmp _ _ .nil) rfl rfl
     ·have h := cond_f hb22 h
      refine ht_skip ?_
      refine pt_inb ?_
      refine pt_then ?_
      obtain ⟨v8, hv8, h⟩ := bind_some h
      refine zg hn [_,_,_,_,_,(25,vi v8),(13,vi v8)] [0,1,2,3,4] [0,1,2,6] [zq [3] 5 25,⟨[5],[3],[6],[(.slot 13)]⟩] [(_,_),(_,_),(_,_),(_,_)] rfl ⟨zp rfl (oB rfl (ibind (f := Value.int .i64) (Option.some.inj hv8))),zp rfl (LOp.drop [_] (oM rfl)),zz⟩ ?_
      exact pt_next _ (Option.some.inj h).symm rfl
    ·have h := cond_f hb21 h
     refine ht_exit ?_
     refine pt_x_then ?_
     refine pt_x_then ?_
     refine pt_x_in ?_
     refine pt_pick [] (by kernel_rfl) (es' := []) rfl ?_
     exact hl16 _ (ho18 _ (Option.some.inj h).symm).symm
theorem ok_verb_same (a : T_Cmd) (b : T_Cmd) (r : Bool) (h : Sh.verb_same a b = some r) : FnOK Tryz.prog 30 [.agg [.v (.int .i64 a.Kind), .v (.string a.Text), .v (.bool a.Path.Null), .v (.string a.Path.Local), .v (.string a.Path.Domain), .fl .shr 2 (List.flatten (List.map T_Param.enc a.Params))], .agg [.v (.int .i64 b.Kind), .v (.string b.Text), .v (.bool b.Path.Null), .v (.string b.Path.Local), .v (.string b.Path.Domain), .fl .shr 2 (List.flatten (List.map T_Param.enc b.Params))]] (.v (.bool r)) := by
  unfold Sh.verb_same at h
  refine fn_ok func30 rfl (zl rfl) rfl rfl fun g0 hn hio => ?_
  refine zgg hn [_,_,(2,.box 26 [vi a.Kind,vs a.Text,vb a.Path.Null,vs a.Path.Local,vs a.Path.Domain,.fl .shr 2 (List.flatten (List.map T_Param.enc a.Params))]),(3,.box 26 [vi b.Kind,vs b.Text,vb b.Path.Null,vs b.Path.Local,vs b.Path.Domain,.fl .shr 2 (List.flatten (List.map T_Param.enc b.Params))]),(4,vb false)] [0,1] [2,3] [zq [0] 2 2,zq [1] 3 3,zq [] 4 4] [(_,_),(_,_)] rfl ⟨zp rfl (op_box _ _ _ _ rfl rfl rfl),zp rfl (op_box _ _ _ _ rfl rfl rfl),z2 rfl,zz⟩ ?_
  refine ht_seq ?_
  refine ht_joinS h (fun (s2 : Bool) => [(4, .v (.bool s2))]) ?_ ?_
  ·rintro s2 h
   refine pt_then (ht_ret ?_)
   obtain rfl := Option.some.inj h
   exact pt_ret hio rfl (.tmp _ _ .nil) rfl rfl
  ·intro u3 h hl4 hr5
   refine cond_some h (fun hg1_5 h => ?_) (fun hg1_5 h => ?_)
   ·refine cond_some h (fun hg1_12 h => ?_) (fun hg1_12 h => ?_)
    ·refine cond_some h (fun hg1_19 h => ?_) (fun hg1_19 h => ?_)
     ·obtain ⟨v1, hv1, h⟩ := bind_some h
      refine zg hn (_::_::(5,.ptr 2 0)::(6,vi a.Kind)::(7,.ptr 3 0)::(8,vi b.Kind)::(9,vb (a.Kind == b.Kind))::(10,vb true)::(11,.ptr 2 1)::(12,vs a.Text)::(13,.ptr 3 1)::(14,vs b.Text)::(15,vb (a.Text.toList == b.Text.toList))::(16,vb (a.Text.toList == b.Text.toList))::(17,vb true)::(18,.ptr 2 2)::(19,.agg [vb a.Path.Null,vs a.Path.Local,vs a.Path.Domain])::(20,.ptr 3 2)::(21,.agg [vb b.Path.Null,vs b.Path.Local,vs b.Path.Domain])::(22,vb ((a.Path.Null == b.Path.Null) && ((a.Path.Local.toList == b.Path.Local.toList) && ((a.Path.Domain.toList == b.Path.Domain.toList) && true))))::(23,vb ((a.Path.Null == b.Path.Null) && ((a.Path.Local.toList == b.Path.Local.toList) && ((a.Path.Domain.toList == b.Path.Domain.toList) && true))))::(24,vb true)::(25,.ptr 2 5)::(26,.fl .shr 2 (List.flatten (List.map T_Param.enc a.Params)))::(27,.ptr 3 5)::(28,.fl .shr 2 (List.flatten (List.map T_Param.enc b.Params)))::(29,vb v1)::(30,vb v1)::(4,vb v1)::[]) [0,1] [28] (zq [0] 2 5::zq [2,0] 3 6::zq [1] 4 7::zq [4,1] 5 8::zq [3,5] 6 9::zq [6] 7 10::zq [7,0] 8 11::zq [7,8,0] 9 12::zq [7,1] 10 13::zq [7,10,1] 11 14::zq [7,9,11] 12 15::zq [7,12] 13 16::zq [13] 14 17::zq [14,0] 15 18::zq [14,15,0] 16 19::zq [14,1] 17 20::zq [14,17,1] 18 21::zq [14,16,18] 19 22::zq [14,19] 20 23::zq [20] 21 24::zq [21,0] 22 25::zq [21,22,0] 23 26::zq [21,1] 24 27::zq [21,24,1] 25 28::zq [21,23,25] 26 29::zq [21,26] 27 30::zq [27] 28 4::[]) [(_,_)] rfl ⟨zp rfl (oF underlying26 rfl sz3),zp rfl (oL underlying3 rfl),zp rfl (oF underlying26 rfl sz3),zp rfl (oL underlying3 rfl),z4 rfl rfl,z8 hg1_5 rfl,zr' rfl (oF underlying26 rfl sz9),zr' rfl (oL underlying9 rfl),zr' rfl (oF underlying26 rfl sz9),zr' rfl (oL underlying9 rfl),zr' rfl (oB rfl rfl),z3 true rfl,z8 hg1_12 rfl,zr' rfl (oF underlying26 rfl sz23),zr' rfl (op_loadA _ _ _ _ _ _ _ underlying23 rfl sz23 rfl rfl (zl rfl) rfl rfl),zr' rfl (oF underlying26 rfl sz23),zr' rfl (op_loadA _ _ _ _ _ _ _ underlying23 rfl sz23 rfl rfl (zl rfl) rfl rfl),zr' rfl (op_eq_st _ _ [.bool a.Path.Null, .string a.Path.Local, .string a.Path.Domain] [.bool b.Path.Null, .string b.Path.Local, .string b.Path.Domain] (((a.Path.Null == b.Path.Null) && ((a.Path.Local.toList == b.Path.Local.toList) && ((a.Path.Domain.toList == b.Path.Domain.toList) && true)))) _ false (by kernel_rfl) (by kernel_rfl) (by kernel_rfl) (by kernel_rfl) (by kernel_rfl) rfl rfl rfl rfl (by kernel_rfl) rfl),z3 true rfl,z8 hg1_19 rfl,zr' rfl (oF underlying26 rfl sz24),zr' rfl (oL underlying24 rfl),zr' rfl (oF underlying26 rfl sz24),zr' rfl (oL underlying24 rfl),zr' rfl (op_call _ _ 48 _ _ rfl call48 rfl (ok_slices_Equal_api_Param_api_Param a.Params b.Params _ hv1) rfl rfl),z3 true rfl,z2 rfl,zz⟩ ?_
      exact hl4 _ (Option.some.inj h).symm
     ·refine zg hn (_::_::(5,.ptr 2 0)::(6,vi a.Kind)::(7,.ptr 3 0)::(8,vi b.Kind)::(9,vb (a.Kind == b.Kind))::(10,vb true)::(11,.ptr 2 1)::(12,vs a.Text)::(13,.ptr 3 1)::(14,vs b.Text)::(15,vb (a.Text.toList == b.Text.toList))::(16,vb (a.Text.toList == b.Text.toList))::(17,vb true)::(18,.ptr 2 2)::(19,.agg [vb a.Path.Null,vs a.Path.Local,vs a.Path.Domain])::(20,.ptr 3 2)::(21,.agg [vb b.Path.Null,vs b.Path.Local,vs b.Path.Domain])::(22,vb ((a.Path.Null == b.Path.Null) && ((a.Path.Local.toList == b.Path.Local.toList) && ((a.Path.Domain.toList == b.Path.Domain.toList) && true))))::(23,vb ((a.Path.Null == b.Path.Null) && ((a.Path.Local.toList == b.Path.Local.toList) && ((a.Path.Domain.toList == b.Path.Domain.toList) && true))))::(24,vb false)::(25,.v undef)::(26,.v undef)::(27,.v undef)::(28,.v undef)::(29,.v undef)::(30,vb false)::(4,vb false)::[]) [0,1] [28] (zq [0] 2 5::zq [2,0] 3 6::zq [1] 4 7::zq [4,1] 5 8::zq [3,5] 6 9::zq [6] 7 10::zq [7,0] 8 11::zq [7,8,0] 9 12::zq [7,1] 10 13::zq [7,10,1] 11 14::zq [7,9,11] 12 15::zq [7,12] 13 16::zq [13] 14 17::zq [14,0] 15 18::zq [14,15,0] 16 19::zq [14,1] 17 20::zq [14,17,1] 18 21::zq [14,16,18] 19 22::zq [14,19] 20 23::zq [20] 21 24::zq [21] 22 25::zq [21] 23 26::zq [21] 24 27::zq [21] 25 28::zq [21] 26 29::zq [21] 27 30::zq [27] 28 4::[]) [(_,_)] rfl ⟨zp rfl (oF underlying26 rfl sz3),zp rfl (oL underlying3 rfl),zp rfl (oF underlying26 rfl sz3),zp rfl (oL underlying3 rfl),z4 rfl rfl,z8 hg1_5 rfl,zr' rfl (oF underlying26 rfl sz9),zr' rfl (oL underlying9 rfl),zr' rfl (oF underlying26 rfl sz9),zr' rfl (oL underlying9 rfl),zr' rfl (oB rfl rfl),z3 true rfl,z8 hg1_12 rfl,zr' rfl (oF underlying26 rfl sz23),zr' rfl (op_loadA _ _ _ _ _ _ _ underlying23 rfl sz23 rfl rfl (zl rfl) rfl rfl),zr' rfl (oF underlying26 rfl sz23),zr' rfl (op_loadA _ _ _ _ _ _ _ underlying23 rfl sz23 rfl rfl (zl rfl) rfl rfl),zr' rfl (op_eq_st _ _ [.bool a.Path.Null, .string a.Path.Local, .string a.Path.Domain] [.bool b.Path.Null, .string b.Path.Local, .string b.Path.Domain] (((a.Path.Null == b.Path.Null) && ((a.Path.Local.toList == b.Path.Local.toList) && ((a.Path.Domain.toList == b.Path.Domain.toList) && true)))) _ false (by kernel_rfl) (by kernel_rfl) (by kernel_rfl) (by kernel_rfl) (by kernel_rfl) rfl rfl rfl rfl (by kernel_rfl) rfl),z3 true rfl,z8 hg1_19 rfl,zt rfl,zt rfl,zt rfl,zt rfl,zt rfl,z3 false rfl,z2 rfl,zz⟩ ?_
      exact hl4 _ (Option.some.inj h).symm
    ·refine zg hn (_::_::(5,.ptr 2 0)::(6,vi a.Kind)::(7,.ptr 3 0)::(8,vi b.Kind)::(9,vb (a.Kind == b.Kind))::(10,vb true)::(11,.ptr 2 1)::(12,vs a.Text)::(13,.ptr 3 1)::(14,vs b.Text)::(15,vb (a.Text.toList == b.Text.toList))::(16,vb (a.Text.toList == b.Text.toList))::(17,vb false)::(18,.v undef)::(19,.v undef)::(20,.v undef)::(21,.v undef)::(22,.v undef)::(23,vb false)::(24,vb false)::(25,.v undef)::(26,.v undef)::(27,.v undef)::(28,.v undef)::(29,.v undef)::(30,vb false)::(4,vb false)::[]) [0,1] [28] (zq [0] 2 5::zq [2,0] 3 6::zq [1] 4 7::zq [4,1] 5 8::zq [3,5] 6 9::zq [6] 7 10::zq [7,0] 8 11::zq [7,8,0] 9 12::zq [7,1] 10 13::zq [7,10,1] 11 14::zq [7,9,11] 12 15::zq [7,12] 13 16::zq [13] 14 17::zq [14] 15 18::zq [14] 16 19::zq [14] 17 20::zq [14] 18 21::zq [14] 19 22::zq [14] 20 23::zq [20] 21 24::zq [21] 22 25::zq [21] 23 26::zq [21] 24 27::zq [21] 25 28::zq [21] 26 29::zq [21] 27 30::zq [27] 28 4::[]) [(_,_)] rfl ⟨zp rfl (oF underlying26 rfl sz3),zp rfl (oL underlying3 rfl),zp rfl (oF underlying26 rfl sz3),zp rfl (oL underlying3 rfl),z4 rfl rfl,z8 hg1_5 rfl,zr' rfl (oF underlying26 rfl sz9),zr' rfl (oL underlying9 rfl),zr' rfl (oF underlying26 rfl sz9),zr' rfl (oL underlying9 rfl),zr' rfl (oB rfl rfl),z3 true rfl,z8 hg1_12 rfl,zt rfl,zt rfl,zt rfl,zt rfl,zt rfl,z3 false rfl,z1 rfl,zt rfl,zt rfl,zt rfl,zt rfl,zt rfl,z3 false rfl,z2 rfl,zz⟩ ?_
     exact hl4 _ (Option.some.inj h).symm
   ·refine zg hn (_::_::(5,.ptr 2 0)::(6,vi a.Kind)::(7,.ptr 3 0)::(8,vi b.Kind)::(9,vb (a.Kind == b.Kind))::(10,vb false)::(11,.v undef)::(12,.v undef)::(13,.v undef)::(14,.v undef)::(15,.v undef)::(16,vb false)::(17,vb false)::(18,.v undef)::(19,.v undef)::(20,.v undef)::(21,.v undef)::(22,.v undef)::(23,vb false)::(24,vb false)::(25,.v undef)::(26,.v undef)::(27,.v undef)::(28,.v undef)::(29,.v undef)::(30,vb false)::(4,vb false)::[]) [0,1] [28] (zq [0] 2 5::zq [2,0] 3 6::zq [1] 4 7::zq [4,1] 5 8::zq [3,5] 6 9::zq [6] 7 10::zq [7] 8 11::zq [7] 9 12::zq [7] 10 13::zq [7] 11 14::zq [7] 12 15::zq [7] 13 16::zq [13] 14 17::zq [14] 15 18::zq [14] 16 19::zq [14] 17 20::zq [14] 18 21::zq [14] 19 22::zq [14] 20 23::zq [20] 21 24::zq [21] 22 25::zq [21] 23 26::zq [21] 24 27::zq [21] 25 28::zq [21] 26 29::zq [21] 27 30::zq [27] 28 4::[]) [(_,_)] rfl ⟨zp rfl (oF underlying26 rfl sz3),zp rfl (oL underlying3 rfl),zp rfl (oF underlying26 rfl sz3),zp rfl (oL underlying3 rfl),z4 rfl rfl,z8 hg1_5 rfl,zt rfl,zt rfl,zt rfl,zt rfl,zt rfl,z3 false rfl,z1 rfl,zt rfl,zt rfl,zt rfl,zt rfl,zt rfl,z3 false rfl,z1 rfl,zt rfl,zt rfl,zt rfl,zt rfl,zt rfl,z3 false rfl,z2 rfl,zz⟩ ?_
    exact hl4 _ (Option.some.inj h).symm
theorem ok_verb_Text (mx : Int) (c : T_Cmd) (r : (ByteArray × Int)) (h : Sh.verb_Text c = some r) : FnG Tryz.prog (GL mx) 8 [.agg [.v (.int .i64 c.Kind), .v (.string c.Text), .v (.bool c.Path.Null), .v (.string c.Path.Local), .v (.string c.Path.Domain), .fl .shr 2 (List.flatten (List.map T_Param.enc c.Params))]] (.tup [.v (.string r.1), .v (.int .i64 r.2)]) := by
  unfold Sh.verb_Text at h
  refine fn_okG func8 rfl (zl rfl) rfl rfl fun g0 hn hio => ?_
  refine zgg hn [_,_,(1,.box 26 [vi c.Kind,vs c.Text,vb c.Path.Null,vs c.Path.Local,vs c.Path.Domain,.fl .shr 2 (List.flatten (List.map T_Param.enc c.Params))]),(2,vs z0),(3,vi 0)] [0,1] [1,2] [zq [0] 2 1,zq [] 3 2,zq [] 4 3] [(_,_),(_,_)] rfl ⟨zp rfl (op_box _ _ _ _ rfl rfl rfl),z2 rfl,z2 rfl,zz⟩ ?_
  refine ht_seq ?_
  obtain ⟨v1, hv1, h⟩ := bind_some h
  refine zg hn [_,_,(7,.agg [vi c.Kind,vs c.Text,vb c.Path.Null,vs c.Path.Local,vs c.Path.Domain,.fl .shr 2 (List.flatten (List.map T_Param.enc c.Params))]),(8,vs v1),(4,vs v1)] [0,1] [0,1,4] [zq [1] 2 7,zq [2,0] 3 8,zq [3] 4 4] [(_,_),(_,_),(_,_)] rfl ⟨zp rfl (op_loadA _ _ _ _ _ _ _ underlying26 rfl sz26 rfl rfl (zl rfl) rfl rfl),zp rfl (op_callG _ _ 23 29 _ _ rfl call29 rfl rfl (fun _ h => h) (ok_verb_format mx ((T_Cmd.mk c.Kind c.Text (T_Path.mk c.Path.Null c.Path.Local c.Path.Domain) c.Params)) _ hv1) rfl rfl),z2 rfl,zz⟩ ?_
  refine pt_then (ht_seq ?_)
  obtain ⟨v2, hv2, h⟩ := bind_some h
  refine zg hn [_,_,_,(10,vs v1),(11,.tup [.agg [vi v2.1.Kind,vs v2.1.Text,vb v2.1.Path.Null,vs v2.1.Path.Local,vs v2.1.Path.Domain,.fl .ro 2 (List.flatten (List.map T_Param.enc v2.1.Params))],vi v2.2]),(9,.tup [.agg [vi v2.1.Kind,vs v2.1.Text,vb v2.1.Path.Null,vs v2.1.Path.Local,vs v2.1.Path.Domain,.fl .ro 2 (List.flatten (List.map T_Param.enc v2.1.Params))],vi v2.2]),(12,.agg [vi v2.1.Kind,vs v2.1.Text,vb v2.1.Path.Null,vs v2.1.Path.Local,vs v2.1.Path.Domain,.fl .ro 2 (List.flatten (List.map T_Param.enc v2.1.Params))]),(13,vi v2.2),(5,.box 26 [vi 0,vs z0,vb false,vs z0,vs z0,.v (.slice none 0 0)]),(5,.box 26 [vi v2.1.Kind,vs v2.1.Text,vb v2.1.Path.Null,vs v2.1.Path.Local,vs v2.1.Path.Domain,.fl .ro 2 (List.flatten (List.map T_Param.enc v2.1.Params))]),(6,vi v2.2)] [0,1,2] [0,1,2,9,10] [zq [2] 3 10,zq [3,0] 4 11,⟨[],[4],[5],[(.slot 9)]⟩,zq [5] 6 12,zq [5] 7 13,zq [] 8 5,⟨[6],[8],[9],[.cell 5 0,.cell 5 1,.cell 5 2,.cell 5 3,.cell 5 4,.cell 5 5]⟩,zq [7] 10 6] [(_,_),(_,_),(_,_),(_,_),(_,_)] rfl ⟨z1 rfl,zp rfl (op_callG _ _ 23 6 _ _ rfl call6 rfl rfl (fun _ h => h) (ok_verb_Parse mx v1 _ hv2) rfl rfl),zp rfl (op_move_take _ _ _ _ rfl),zp rfl (op_extract_no _ _ _ _ _ _ rfl rfl (zl rfl) rfl rfl),zp rfl (oE rfl),zp rfl (op_alloc _ _ zr26),zp rfl (oS sz26 rfl),z2 rfl,zz⟩ ?_
  refine pt_then (ht_seq ?_)
  refine ht_seq ?_
  refine ht_joinS h (fun (s4 : Bool) => [(23, .glob (GL mx)), (4, .v (.string v1)), (21, .v (.bool s4))]) ?_ ?_
  ·rintro s4 h
   refine pt_then ?_
   refine ht_cond _ rfl (fun hb8 => ?_) (fun hb8 => ?_)
   ·have h := cond_t hb8 h
    refine zgg hn [_,_,_,(2,vs z0),(3,vi 5)] [0,1,2] [0,3,4] [zq [] 3 2,zq [] 4 3] [(_,_),(_,_),(_,_)] rfl ⟨z2 rfl,z2 rfl,zz⟩ ?_
    refine ht_ret ?_
    refine pt_pick [1, 2] (by kernel_rfl) (es' := [(_,_),(_,_)]) rfl ?_
    refine pt_r_then ?_
    obtain rfl := Option.some.inj h
    exact pt_ret hio rfl (.tmp _ _ (.tmp _ _ .nil)) rfl rfl
   ·have h := cond_f hb8 h
    refine ht_skip ?_
    refine pt_then ?_
    refine zgg hn [_,_,_,(22,vs v1),(2,vs v1),(3,vi 0)] [0,1,2] [0,4,5] [zq [1] 3 22,zq [3] 4 2,zq [] 5 3] [(_,_),(_,_),(_,_)] rfl ⟨z1 rfl,z2 rfl,z2 rfl,zz⟩ ?_
    refine ht_ret ?_
    refine pt_pick [1, 2] (by kernel_rfl) (es' := [(_,_),(_,_)]) rfl ?_
    obtain rfl := Option.some.inj h
    exact pt_ret hio rfl (.tmp _ _ (.tmp _ _ .nil)) rfl rfl
  ·intro u5 h hl6 hr7
   refine cond_some h (fun hg3_2 h => ?_) (fun hg3_2 h => ?_)
   ·refine zg hn [_,_,_,_,_,(14,vi v2.2),(15,vb (v2.2 != 0)),(16,vb true),(17,.v undef),(18,.v undef),(19,.v undef),(20,.v undef),(21,vb true)] [0,1,2,3,4] [0,2,12] [zq [4] 5 14,zq [5] 6 15,zq [6] 7 16,zq [7] 8 17,zq [7] 9 18,zq [7] 10 19,zq [7] 11 20,zq [7] 12 21] [(_,_),(_,_),(_,_)] rfl ⟨z1 rfl,z4 rfl rfl,z8 hg3_2 rfl,zf rfl,zf rfl,zf rfl,zf rfl,z3 true rfl,zz⟩ ?_
    exact hl6 _ (Option.some.inj h).symm
   ·obtain ⟨v3, hv3, h⟩ := bind_some h
    refine zg hn [_,_,_,_,_,(14,vi v2.2),(15,vb (v2.2 != 0)),(16,vb false),(17,.agg [vi c.Kind,vs c.Text,vb c.Path.Null,vs c.Path.Local,vs c.Path.Domain,.fl .shr 2 (List.flatten (List.map T_Param.enc c.Params))]),(18,.agg [vi v2.1.Kind,vs v2.1.Text,vb v2.1.Path.Null,vs v2.1.Path.Local,vs v2.1.Path.Domain,.fl .ro 2 (List.flatten (List.map T_Param.enc v2.1.Params))]),(19,vb v3),(20,vb (!v3)),(21,vb (!v3))] [0,1,2,3,4] [0,2,12] [zq [4] 5 14,zq [5] 6 15,zq [6] 7 16,zq [7,1] 8 17,zq [7,3] 9 18,zq [7,8,9] 10 19,zq [7,10] 11 20,zq [7,11] 12 21] [(_,_),(_,_),(_,_)] rfl ⟨z1 rfl,z4 rfl rfl,z8 hg3_2 rfl,zr' rfl (op_loadA _ _ _ _ _ _ _ underlying26 rfl sz26 rfl rfl (zl rfl) rfl rfl),zr' rfl (op_loadA _ _ _ _ _ _ _ underlying26 rfl sz26 rfl rfl (zl rfl) rfl rfl),zr' rfl (op_call _ _ 30 _ _ rfl call30 rfl (ok_verb_same ((T_Cmd.mk c.Kind c.Text (T_Path.mk c.Path.Null c.Path.Local c.Path.Domain) c.Params)) ((T_Cmd.mk v2.1.Kind v2.1.Text (T_Path.mk v2.1.Path.Null v2.1.Path.Local v2.1.Path.Domain) v2.1.Params)) _ hv3) rfl rfl),zr' rfl (op_un _ _ _ _ rfl rfl),z3 false rfl,zz⟩ ?_
    exact hl6 _ (Option.some.inj h).symm
theorem ok_wherryref11_Text (p : T_Path) (r : ByteArray) (h : Sh.wherryref11_Text p = some r) : FnOK Tryz.prog 15 [.agg [.v (.bool p.Null), .v (.string p.Local), .v (.string p.Domain)]] (.v (.string r)) := by
  unfold Sh.wherryref11_Text at h
  refine fn_ok func15 rfl (zl rfl) rfl rfl fun g0 hn hio => ?_
  refine zgg hn [_,(1,.box 23 [vb p.Null,vs p.Local,vs p.Domain]),(2,vs z0)] [0] [1] [zq [0] 1 1,zq [] 2 2] [(_,_)] rfl ⟨zp rfl (op_box _ _ _ _ rfl rfl rfl),z2 rfl,zz⟩ ?_
  refine ht_seq ?_
  refine zgg hn [_,(3,.ptr 1 0),(4,vb p.Null)] [0] [0,2] [zq [0] 1 3,zq [1,0] 2 4] [(_,_),(_,_)] rfl ⟨zp rfl (oF underlying23 rfl sz4),zp rfl (oL underlying4 rfl),zz⟩ ?_
  refine ht_cond _ rfl (fun hb1 => ?_) (fun hb1 => ?_)
  ·have h := cond_t hb1 h
   refine zgg hn [_,_,(2,vs (⟨#[60,62]⟩ : ByteArray))] [0,1] [2] [zq [] 2 2] [(_,_)] rfl ⟨z2 rfl,zz⟩ ?_
   refine ht_ret ?_
   refine pt_r_then ?_
   obtain rfl := Option.some.inj h
   exact pt_ret hio rfl (.tmp _ _ .nil) rfl rfl
  ·have h := cond_f hb1 h
   refine ht_skip ?_
   refine pt_then (ht_seq ?_)
   obtain ⟨v2, hv2, h⟩ := bind_some h
   obtain ⟨v3, hv3, h⟩ := bind_some h
   obtain ⟨v4, hv4, h⟩ := bind_some h
   obtain ⟨v5, hv5, h⟩ := bind_some h
   refine zg hn [_,_,(5,.ptr 1 1),(6,vs p.Local),(7,vs v2),(8,vs v3),(9,.ptr 1 2),(10,vs p.Domain),(11,vs v4),(12,vs v5),(2,vs v5)] [0,1] [10] [zq [0] 2 5,zq [2,0] 3 6,zq [3] 4 7,zq [4] 5 8,zq [0] 6 9,zq [6,0] 7 10,zq [5,7] 8 11,zq [8] 9 12,zq [9] 10 2] [(_,_)] rfl ⟨zp rfl (oF underlying23 rfl sz9),zp rfl (oL underlying9 rfl),zp rfl (oB rfl (cat_ok hv2)),zp rfl (oB rfl (cat_ok hv3)),zp rfl (oF underlying23 rfl sz9),zp rfl (oL underlying9 rfl),zp rfl (oB rfl (cat_ok hv4)),zp rfl (oB rfl (cat_ok hv5)),z2 rfl,zz⟩ ?_
   refine pt_then (ht_ret ?_)
   obtain rfl := Option.some.inj h
   exact pt_ret hio rfl (.tmp _ _ .nil) rfl rfl
theorem ok_wherryref11_line (c : T_Cmd) (r : ByteArray) (h : Sh.wherryref11_line c = some r) : FnOK Tryz.prog 31 [.agg [.v (.int .i64 c.Kind), .v (.string c.Text), .v (.bool c.Path.Null), .v (.string c.Path.Local), .v (.string c.Path.Domain), .fl .shr 2 (List.flatten (List.map T_Param.enc c.Params))]] (.v (.string r)) := by
  unfold Sh.wherryref11_line at h
  refine fn_ok func31 rfl (zl rfl) rfl rfl fun g0 hn hio => ?_
  refine zgg hn [_,(1,.box 26 [vi c.Kind,vs c.Text,vb c.Path.Null,vs c.Path.Local,vs c.Path.Domain,.fl .shr 2 (List.flatten (List.map T_Param.enc c.Params))]),(2,vs z0)] [0] [1] [zq [0] 1 1,zq [] 2 2] [(_,_)] rfl ⟨zp rfl (op_box _ _ _ _ rfl rfl rfl),z2 rfl,zz⟩ ?_
  refine zgg hn [_,(3,vs z0)] [0] [0,1] [zq [] 1 3] [(_,_),(_,_)] rfl ⟨z2 rfl,zz⟩ ?_
  refine ht_seq ?_
  refine ht_joinS h (fun (s37 : ByteArray) => [(1, .box 26 [.v (.int .i64 c.Kind), .v (.string c.Text), .v (.bool c.Path.Null), .v (.string c.Path.Local), .v (.string c.Path.Domain), .fl .shr 2 (List.flatten (List.map T_Param.enc c.Params))]), (3, .v (.string s37))]) ?_ ?_
  ·rintro s37 h
   refine pt_then (ht_seq ?_)
   refine zgg hn [_,_,(4,vi 0)] [0,1] [0,1,2] [zq [] 2 4] [(_,_),(_,_),(_,_)] rfl ⟨z2 rfl,zz⟩ ?_
   refine ht_loopS h (fun ((s82, s83) : ByteArray × Int) => [(1, .box 26 [.v (.int .i64 c.Kind), .v (.string c.Text), .v (.bool c.Path.Null), .v (.string c.Path.Local), .v (.string c.Path.Domain), .fl .shr 2 (List.flatten (List.map T_Param.enc c.Params))]), (3, .v (.string s82)), (4, .v (.int .i64 s83))]) (fun (s85 : ByteArray) => [(3, .v (.string s85))]) ?_ ?_
   ·rintro s85 h
    refine pt_then ?_
    refine zgg hn [_,(76,vs s85),(2,vs s85)] [0] [2] [zq [0] 1 76,zq [1] 2 2] [(_,_)] rfl ⟨z1 rfl,z2 rfl,zz⟩ ?_
    refine ht_ret ?_
    obtain rfl := Option.some.inj h
    exact pt_ret hio rfl (.tmp _ _ .nil) rfl rfl
   ·rintro u86 hl87 hr88 ⟨s82, s83⟩ rr91 h ho89
    refine ht_seq ?_
    refine zgg hn [_,_,_,(52,vi s83),(53,.ptr 1 5),(54,.fl .shr 2 (List.flatten (List.map T_Param.enc c.Params))),(55,vi (c.Params.length : Int)),(56,vb (decide (s83 < (c.Params.length : Int))))] [0,1,2] [0,1,2,7] [zq [2] 3 52,zq [0] 4 53,zq [4,0] 5 54,zq [5] 6 55,zq [3,6] 7 56] [(_,_),(_,_),(_,_),(_,_)] rfl ⟨z1 rfl,zp rfl (oF underlying26 rfl sz24),zp rfl (oL underlying24 rfl),zp rfl (op_len_fl _ _ _ underlying24 rfl (by decide) (flat_len T_Param.len _)),z4 rfl rfl,zz⟩ ?_
    refine ht_cond _ rfl (fun hb92 => ?_) (fun hb92 => ?_)
    ·have h := cond_t hb92 h
     refine ht_skip ?_
     refine pt_then (ht_seq ?_)
     refine ht_block ?_
     obtain ⟨v70, hv70, h⟩ := bind_some h
     obtain ⟨v71, hv71, h⟩ := bind_some h
     obtain ⟨v72, hv72, h⟩ := bind_some h
     obtain ⟨v73, hv73, h⟩ := bind_some h
     obtain ⟨v74, hv74, h⟩ := bind_some h
     obtain ⟨v75, hv75, h⟩ := bind_some h
     obtain ⟨v76, hv76, h⟩ := bind_some h
     obtain ⟨v77, hv77, h⟩ := bind_some h
     refine ht_anyR (by kernel_rfl) hn (El := (_ :: _ :: _ :: _ :: (59, .v (.string s82)) :: (60, .v (.string v70)) :: (61, .ptr 1 5) :: (62, .fl .shr 2 (List.flatten (List.map T_Param.enc c.Params))) :: (63, .v (.int .i64 s83)) :: (64, .eref (.slot 62) (v71 * 2)) :: (65, .eref (.slot 62) (v71 * 2 + 0)) :: (66, .v (.string v72.Key)) :: (67, .v (.string v73)) :: (68, .v (.string v74)) :: (69, .ptr 1 5) :: (70, .fl .shr 2 (List.flatten (List.map T_Param.enc c.Params))) :: (71, .v (.int .i64 s83)) :: (72, .eref (.slot 70) (v75 * 2)) :: (73, .eref (.slot 70) (v75 * 2 + 1)) :: (74, .v (.string v76.Val)) :: (75, .v (.string v77)) :: (3, .v (.string v77)) :: [])) (init := [0, 1, 2, 3]) (fin := [0, 2, 21]) (sps := (zq [1] 4 59 :: zq [4] 5 60 :: zq [0] 6 61 :: zq [6,0] 7 62 :: zq [2] 8 63 :: zq [7,8] 9 64 :: zq [9,7] 10 65 :: zq [10,7] 11 66 :: zq [5,11] 12 67 :: zq [12] 13 68 :: zq [0] 14 69 :: zq [14,0] 15 70 :: zq [2] 16 71 :: zq [15,16] 17 72 :: zq [17,15] 18 73 :: zq [18,15] 19 74 :: zq [13,19] 20 75 :: ⟨[20], [1], [21], [(.slot 3)]⟩ :: [])) (es' := [(_,_),(_,_),(3, .v (.string v77))]) (by kernel_rfl) rfl rfl ⟨z1 rfl,zp rfl (oB rfl (cat_ok hv70)),zp rfl (oF underlying26 rfl sz24),zp rfl (oL underlying24 rfl),z1 rfl,zp rfl (op_ix _ _ _ _ _ _ _ _ underlying24 sz47 (by decide) rfl rfl rfl (ix_ok hv71).1 (flat_lt T_Param.len (ix_ok hv71).2) rfl),zp rfl (op_fieldAddr_e _ _ _ _ _ _ _ underlying47 rfl sz9 rfl rfl rfl),zp rfl (op_load_e _ _ _ _ _ _ underlying9 rfl rfl rfl (flat_cell T_Param.len hv72 rfl)),zp rfl (oB rfl (cat_ok hv73)),zp rfl (oB rfl (cat_ok hv74)),zp rfl (oF underlying26 rfl sz24),zp rfl (oL underlying24 rfl),z1 rfl,zp rfl (op_ix _ _ _ _ _ _ _ _ underlying24 sz47 (by decide) rfl rfl rfl (ix_ok hv75).1 (flat_lt T_Param.len (ix_ok hv75).2) rfl),zp rfl (op_fieldAddr_e _ _ _ _ _ _ _ underlying47 rfl sz9 rfl rfl rfl),zp rfl (op_load_e _ _ _ _ _ _ underlying9 rfl rfl rfl (flat_cell T_Param.len hv76 rfl)),zp rfl (oB rfl (cat_ok hv77)),zp rfl (LOp.drop [_] (op_assign _ _ _ _ rfl rfl)),zz⟩ ?_
     refine pt_inb ?_
     refine pt_then ?_
     obtain ⟨v78, hv78, h⟩ := bind_some h
     refine zg hn [_,_,_,(57,vi s83),(58,vi v78),(4,vi v78)] [0,1,2] [0,2,5] [zq [1] 3 57,zq [3] 4 58,⟨[4],[1],[5],[(.slot 4)]⟩] [(_,_),(_,_),(_,_)] rfl ⟨z1 rfl,zp rfl (oB rfl (ibind (f := Value.int .i64) (Option.some.inj hv78))),zp rfl (LOp.drop [_] (op_assign _ _ _ _ rfl rfl)),zz⟩ ?_
     exact pt_next _ (Option.some.inj h).symm rfl
    ·have h := cond_f hb92 h
     refine ht_exit ?_
     refine pt_x_then ?_
     refine pt_x_then ?_
     refine pt_x_in ?_
     refine pt_pick [1] (by kernel_rfl) (es' := [(_,_)]) rfl ?_
     exact hl87 _ (ho89 _ (Option.some.inj h).symm).symm
  ·intro u38 h hl39 hr40
   refine zgg hn [_,_,(5,.ptr 1 0),(6,vi c.Kind)] [0,1] [0,1,3] [zq [0] 2 5,zq [2,0] 3 6] [(_,_),(_,_),(_,_)] rfl ⟨zp rfl (oF underlying26 rfl sz3),zp rfl (oL underlying3 rfl),zz⟩ ?_
   refine ht_joinS h (fun (s53 : ByteArray) => [(1, .box 26 [.v (.int .i64 c.Kind), .v (.string c.Text), .v (.bool c.Path.Null), .v (.string c.Path.Local), .v (.string c.Path.Domain), .fl .shr 2 (List.flatten (List.map T_Param.enc c.Params))]), (3, .v (.string s53))]) ?_ ?_
   ·rintro s53 h
    exact hl39 _ (Option.some.inj h).symm
   ·intro u54 h hl55 hr56
    refine ht_block ?_
    refine zgg hn [_,_,_,(8,vb (c.Kind == 1)),(7,vb (c.Kind == 1))] [0,1,2] [0,1,2,4] [zq [2] 3 8,zq [3] 4 7] [(_,_),(_,_),(_,_),(_,_)] rfl ⟨z4 rfl rfl,z2 rfl,zz⟩ ?_
    refine ht_cond _ rfl (fun hb57 => ?_) (fun hb57 => ?_)
    ·have h := cond_t hb57 h
     refine ht_seq ?_
     obtain ⟨v2, hv2, h⟩ := bind_some h
     refine zg hn [_,_,_,_,(9,.ptr 1 1),(10,vs c.Text),(11,vs v2),(2,vs v2)] [0,1,2,3] [7] [zq [0] 4 9,zq [4,0] 5 10,zq [5] 6 11,zq [6] 7 2] [(_,_)] rfl ⟨zp rfl (oF underlying26 rfl sz9),zp rfl (oL underlying9 rfl),zp rfl (oB rfl (cat_ok hv2)),z2 rfl,zz⟩ ?_
     refine pt_then (ht_ret ?_)
     refine pt_r_in ?_
     refine pt_r_then ?_
     have h := hr56 _ (Option.some.inj h).symm
     have h := hr40 _ (Option.some.inj h).symm
     obtain rfl := Option.some.inj h
     exact pt_ret hio rfl (.tmp _ _ .nil) rfl rfl
    ·have h := cond_f hb57 h
     refine zgg hn [_,_,_,_,(13,vb (c.Kind == 2)),(12,vb (c.Kind == 2))] [0,1,2,3] [0,1,2,5] [zq [2] 4 13,zq [4] 5 12] [(_,_),(_,_),(_,_),(_,_)] rfl ⟨z4 rfl rfl,z2 rfl,zz⟩ ?_
     refine ht_cond _ rfl (fun hb58 => ?_) (fun hb58 => ?_)
     ·have h := cond_t hb58 h
      obtain ⟨v4, hv4, h⟩ := bind_some h
      obtain ⟨v5, hv5, h⟩ := bind_some h
      refine zg hn [_,_,_,_,(14,.ptr 1 2),(15,.agg [vb c.Path.Null,vs c.Path.Local,vs c.Path.Domain]),(16,vs v4),(17,vs v5),(3,vs v5)] [0,1,2,3] [0,8] [zq [0] 4 14,zq [4,0] 5 15,zq [5] 6 16,zq [6] 7 17,⟨[7],[1],[8],[(.slot 3)]⟩] [(_,_),(_,_)] rfl ⟨zp rfl (oF underlying26 rfl sz23),zp rfl (op_loadA _ _ _ _ _ _ _ underlying23 rfl sz23 rfl rfl (zl rfl) rfl rfl),zp rfl (op_call _ _ 15 _ _ rfl call15 rfl (ok_wherryref11_Text (T_Path.mk c.Path.Null c.Path.Local c.Path.Domain) _ hv4) rfl rfl),zp rfl (oB rfl (cat_ok hv5)),zp rfl (LOp.drop [_] (op_assign _ _ _ _ rfl rfl)),zz⟩ ?_
      refine pt_inb ?_
      exact hl55 _ (Option.some.inj h).symm
     ·have h := cond_f hb58 h
      refine zgg hn [_,_,_,_,(19,vb (c.Kind == 3)),(18,vb (c.Kind == 3))] [0,1,2,3] [0,1,2,5] [zq [2] 4 19,zq [4] 5 18] [(_,_),(_,_),(_,_),(_,_)] rfl ⟨z4 rfl rfl,z2 rfl,zz⟩ ?_
      refine ht_cond _ rfl (fun hb59 => ?_) (fun hb59 => ?_)
      ·have h := cond_t hb59 h
       obtain ⟨v7, hv7, h⟩ := bind_some h
       obtain ⟨v8, hv8, h⟩ := bind_some h
       refine zg hn [_,_,_,_,(20,.ptr 1 2),(21,.agg [vb c.Path.Null,vs c.Path.Local,vs c.Path.Domain]),(22,vs v7),(23,vs v8),(3,vs v8)] [0,1,2,3] [0,8] [zq [0] 4 20,zq [4,0] 5 21,zq [5] 6 22,zq [6] 7 23,⟨[7],[1],[8],[(.slot 3)]⟩] [(_,_),(_,_)] rfl ⟨zp rfl (oF underlying26 rfl sz23),zp rfl (op_loadA _ _ _ _ _ _ _ underlying23 rfl sz23 rfl rfl (zl rfl) rfl rfl),zp rfl (op_call _ _ 15 _ _ rfl call15 rfl (ok_wherryref11_Text (T_Path.mk c.Path.Null c.Path.Local c.Path.Domain) _ hv7) rfl rfl),zp rfl (oB rfl (cat_ok hv8)),zp rfl (LOp.drop [_] (op_assign _ _ _ _ rfl rfl)),zz⟩ ?_
       refine pt_inb ?_
       exact hl55 _ (Option.some.inj h).symm
      ·have h := cond_f hb59 h
       refine zgg hn [_,_,_,_,(25,vb (c.Kind == 4)),(24,vb (c.Kind == 4))] [0,1,2,3] [0,1,2,5] [zq [2] 4 25,zq [4] 5 24] [(_,_),(_,_),(_,_),(_,_)] rfl ⟨z4 rfl rfl,z2 rfl,zz⟩ ?_
       refine ht_cond _ rfl (fun hb60 => ?_) (fun hb60 => ?_)
       ·have h := cond_t hb60 h
        refine zgg hn [_,_,_,_,(2,vs (⟨#[68,65,84,65]⟩ : ByteArray))] [0,1,2,3] [4] [zq [] 4 2] [(_,_)] rfl ⟨z2 rfl,zz⟩ ?_
        refine ht_ret ?_
        refine pt_r_in ?_
        refine pt_r_then ?_
        have h := hr56 _ (Option.some.inj h).symm
        have h := hr40 _ (Option.some.inj h).symm
        obtain rfl := Option.some.inj h
        exact pt_ret hio rfl (.tmp _ _ .nil) rfl rfl
       ·have h := cond_f hb60 h
        refine zgg hn [_,_,_,_,(27,vb (c.Kind == 5)),(26,vb (c.Kind == 5))] [0,1,2,3] [0,1,2,5] [zq [2] 4 27,zq [4] 5 26] [(_,_),(_,_),(_,_),(_,_)] rfl ⟨z4 rfl rfl,z2 rfl,zz⟩ ?_
        refine ht_cond _ rfl (fun hb61 => ?_) (fun hb61 => ?_)
        ·have h := cond_t hb61 h
         refine zgg hn [_,_,_,_,(2,vs (⟨#[82,83,69,84]⟩ : ByteArray))] [0,1,2,3] [4] [zq [] 4 2] [(_,_)] rfl ⟨z2 rfl,zz⟩ ?_
         refine ht_ret ?_
         refine pt_r_in ?_
         refine pt_r_then ?_
         have h := hr56 _ (Option.some.inj h).symm
         have h := hr40 _ (Option.some.inj h).symm
         obtain rfl := Option.some.inj h
         exact pt_ret hio rfl (.tmp _ _ .nil) rfl rfl
        ·have h := cond_f hb61 h
         refine zgg hn [_,_,_,_,(29,vb (c.Kind == 6)),(28,vb (c.Kind == 6))] [0,1,2,3] [0,1,2,5] [zq [2] 4 29,zq [4] 5 28] [(_,_),(_,_),(_,_),(_,_)] rfl ⟨z4 rfl rfl,z2 rfl,zz⟩ ?_
         refine ht_cond _ rfl (fun hb62 => ?_) (fun hb62 => ?_)
         ·have h := cond_t hb62 h
          refine ht_seq ?_
          obtain ⟨v12, hv12, h⟩ := bind_some h
          refine zg hn [_,_,_,_,(30,.ptr 1 1),(31,vs c.Text),(32,vs v12),(2,vs v12)] [0,1,2,3] [7] [zq [0] 4 30,zq [4,0] 5 31,zq [5] 6 32,zq [6] 7 2] [(_,_)] rfl ⟨zp rfl (oF underlying26 rfl sz9),zp rfl (oL underlying9 rfl),zp rfl (oB rfl (cat_ok hv12)),z2 rfl,zz⟩ ?_
          refine pt_then (ht_ret ?_)
          refine pt_r_in ?_
          refine pt_r_then ?_
          have h := hr56 _ (Option.some.inj h).symm
          have h := hr40 _ (Option.some.inj h).symm
          obtain rfl := Option.some.inj h
          exact pt_ret hio rfl (.tmp _ _ .nil) rfl rfl
         ·have h := cond_f hb62 h
          refine zgg hn [_,_,_,_,(34,vb (c.Kind == 7)),(33,vb (c.Kind == 7))] [0,1,2,3] [0,1,2,5] [zq [2] 4 34,zq [4] 5 33] [(_,_),(_,_),(_,_),(_,_)] rfl ⟨z4 rfl rfl,z2 rfl,zz⟩ ?_
          refine ht_cond _ rfl (fun hb63 => ?_) (fun hb63 => ?_)
          ·have h := cond_t hb63 h
           refine zgg hn [_,_,_,_,(2,vs (⟨#[78,79,79,80]⟩ : ByteArray))] [0,1,2,3] [4] [zq [] 4 2] [(_,_)] rfl ⟨z2 rfl,zz⟩ ?_
           refine ht_ret ?_
           refine pt_r_in ?_
           refine pt_r_then ?_
           have h := hr56 _ (Option.some.inj h).symm
           have h := hr40 _ (Option.some.inj h).symm
           obtain rfl := Option.some.inj h
           exact pt_ret hio rfl (.tmp _ _ .nil) rfl rfl
          ·have h := cond_f hb63 h
           refine zgg hn [_,_,_,_,(36,vb (c.Kind == 8)),(35,vb (c.Kind == 8))] [0,1,2,3] [0,1,2,5] [zq [2] 4 36,zq [4] 5 35] [(_,_),(_,_),(_,_),(_,_)] rfl ⟨z4 rfl rfl,z2 rfl,zz⟩ ?_
           refine ht_cond _ rfl (fun hb64 => ?_) (fun hb64 => ?_)
           ·have h := cond_t hb64 h
            refine zgg hn [_,_,_,_,(2,vs (⟨#[81,85,73,84]⟩ : ByteArray))] [0,1,2,3] [4] [zq [] 4 2] [(_,_)] rfl ⟨z2 rfl,zz⟩ ?_
            refine ht_ret ?_
            refine pt_r_in ?_
            refine pt_r_then ?_
            have h := hr56 _ (Option.some.inj h).symm
            have h := hr40 _ (Option.some.inj h).symm
            obtain rfl := Option.some.inj h
            exact pt_ret hio rfl (.tmp _ _ .nil) rfl rfl
           ·have h := cond_f hb64 h
            refine zgg hn [_,_,_,_,(38,vb (c.Kind == 9)),(37,vb (c.Kind == 9))] [0,1,2,3] [0,1,2,5] [zq [2] 4 38,zq [4] 5 37] [(_,_),(_,_),(_,_),(_,_)] rfl ⟨z4 rfl rfl,z2 rfl,zz⟩ ?_
            refine ht_cond _ rfl (fun hb65 => ?_) (fun hb65 => ?_)
            ·have h := cond_t hb65 h
             refine ht_seq ?_
             obtain ⟨v16, hv16, h⟩ := bind_some h
             refine zg hn [_,_,_,_,(39,.ptr 1 1),(40,vs c.Text),(41,vs v16),(2,vs v16)] [0,1,2,3] [7] [zq [0] 4 39,zq [4,0] 5 40,zq [5] 6 41,zq [6] 7 2] [(_,_)] rfl ⟨zp rfl (oF underlying26 rfl sz9),zp rfl (oL underlying9 rfl),zp rfl (oB rfl (cat_ok hv16)),z2 rfl,zz⟩ ?_
             refine pt_then (ht_ret ?_)
             refine pt_r_in ?_
             refine pt_r_then ?_
             have h := hr56 _ (Option.some.inj h).symm
             have h := hr40 _ (Option.some.inj h).symm
             obtain rfl := Option.some.inj h
             exact pt_ret hio rfl (.tmp _ _ .nil) rfl rfl
            ·have h := cond_f hb65 h
             refine zgg hn [_,_,_,_,(43,vb (c.Kind == 10)),(42,vb (c.Kind == 10))] [0,1,2,3] [0,1,2,5] [zq [2] 4 43,zq [4] 5 42] [(_,_),(_,_),(_,_),(_,_)] rfl ⟨z4 rfl rfl,z2 rfl,zz⟩ ?_
             refine ht_cond _ rfl (fun hb66 => ?_) (fun hb66 => ?_)
             ·have h := cond_t hb66 h
              refine zgg hn [_,_,_,_,(2,vs (⟨#[65,85,84,72,32,67,82,65,77,45,77,68,53]⟩ : ByteArray))] [0,1,2,3] [4] [zq [] 4 2] [(_,_)] rfl ⟨z2 rfl,zz⟩ ?_
              refine ht_ret ?_
              refine pt_r_in ?_
              refine pt_r_then ?_
              have h := hr56 _ (Option.some.inj h).symm
              have h := hr40 _ (Option.some.inj h).symm
              obtain rfl := Option.some.inj h
              exact pt_ret hio rfl (.tmp _ _ .nil) rfl rfl
             ·have h := cond_f hb66 h
              refine zgg hn [_,_,_,_,(45,vb (c.Kind == 11)),(44,vb (c.Kind == 11))] [0,1,2,3] [0,1,5] [zq [2] 4 45,zq [4] 5 44] [(_,_),(_,_),(_,_)] rfl ⟨z4 rfl rfl,z2 rfl,zz⟩ ?_
              refine ht_cond _ rfl (fun hb67 => ?_) (fun hb67 => ?_)
              ·have h := cond_t hb67 h
               refine ht_seq ?_
               refine zgg hn [_,_,_,(46,.ptr 1 1),(47,vs c.Text),(48,vb (c.Text.toList == z0.toList))] [0,1,2] [0,5] [zq [0] 3 46,zq [3,0] 4 47,zq [4] 5 48] [(_,_),(_,_)] rfl ⟨zp rfl (oF underlying26 rfl sz9),zp rfl (oL underlying9 rfl),z4 rfl rfl,zz⟩ ?_
               refine ht_cond _ rfl (fun hb68 => ?_) (fun hb68 => ?_)
               ·have h := cond_t hb68 h
                refine zgg hn [_,_,(2,vs (⟨#[65,84,82,78]⟩ : ByteArray))] [0,1] [2] [zq [] 2 2] [(_,_)] rfl ⟨z2 rfl,zz⟩ ?_
                refine ht_ret ?_
                refine pt_r_then ?_
                refine pt_r_in ?_
                refine pt_r_then ?_
                have h := hr56 _ (Option.some.inj h).symm
                have h := hr40 _ (Option.some.inj h).symm
                obtain rfl := Option.some.inj h
                exact pt_ret hio rfl (.tmp _ _ .nil) rfl rfl
               ·have h := cond_f hb68 h
                refine ht_skip ?_
                refine pt_then (ht_seq ?_)
                obtain ⟨v20, hv20, h⟩ := bind_some h
                refine zg hn [_,_,(49,.ptr 1 1),(50,vs c.Text),(51,vs v20),(2,vs v20)] [0,1] [5] [zq [0] 2 49,zq [2,0] 3 50,zq [3] 4 51,zq [4] 5 2] [(_,_)] rfl ⟨zp rfl (oF underlying26 rfl sz9),zp rfl (oL underlying9 rfl),zp rfl (oB rfl (cat_ok hv20)),z2 rfl,zz⟩ ?_
                refine pt_then (ht_ret ?_)
                refine pt_r_in ?_
                refine pt_r_then ?_
                have h := hr56 _ (Option.some.inj h).symm
                have h := hr40 _ (Option.some.inj h).symm
                obtain rfl := Option.some.inj h
                exact pt_ret hio rfl (.tmp _ _ .nil) rfl rfl
              ·have h := cond_f hb67 h
               refine ht_skip ?_
               refine pt_inb ?_
               refine pt_pick [0, 1] (by kernel_rfl) (es' := [(_,_),(_,_)]) rfl ?_
               exact hl55 _ (Option.some.inj h).symm
theorem ok_wherrykeep_Path (a : T_Path) (b : T_Path) (r : Bool) (h : Sh.wherrykeep_Path a b = some r) : FnOK Tryz.prog 17 [.agg [.v (.bool a.Null), .v (.string a.Local), .v (.string a.Domain)], .agg [.v (.bool b.Null), .v (.string b.Local), .v (.string b.Domain)]] (.v (.bool r)) := by
  unfold Sh.wherrykeep_Path at h
  refine fn_ok func17 rfl (zl rfl) rfl rfl fun g0 hn hio => ?_
  refine zgg hn [_,_,(2,.box 23 [vb a.Null,vs a.Local,vs a.Domain]),(3,.box 23 [vb b.Null,vs b.Local,vs b.Domain]),(4,vb false)] [0,1] [2,3] [zq [0] 2 2,zq [1] 3 3,zq [] 4 4] [(_,_),(_,_)] rfl ⟨zp rfl (op_box _ _ _ _ rfl rfl rfl),zp rfl (op_box _ _ _ _ rfl rfl rfl),z2 rfl,zz⟩ ?_
  refine ht_seq ?_
  refine ht_joinS h (fun (s2 : Bool) => [(4, .v (.bool s2))]) ?_ ?_
  ·rintro s2 h
   refine pt_then (ht_ret ?_)
   obtain rfl := Option.some.inj h
   exact pt_ret hio rfl (.tmp _ _ .nil) rfl rfl
  ·intro u3 h hl4 hr5
   obtain ⟨v1, hv1, h⟩ := bind_some h
   refine cond_some h (fun hg1_5 h => ?_) (fun hg1_5 h => ?_)
   ·refine cond_some h (fun hg1_12 h => ?_) (fun hg1_12 h => ?_)
    ·refine zg hn (_::_::(5,.ptr 2 0)::(6,vb a.Null)::(7,.ptr 3 0)::(8,vb b.Null)::(9,vb (a.Null == b.Null))::(10,vb true)::(11,.ptr 2 1)::(12,vs a.Local)::(13,.ptr 3 1)::(14,vs b.Local)::(15,vb (a.Local.toList == b.Local.toList))::(16,vb (a.Local.toList == b.Local.toList))::(17,vb true)::(18,.ptr 2 2)::(19,vs a.Domain)::(20,.ptr 3 2)::(21,vs b.Domain)::(22,vb (a.Domain.toList == b.Domain.toList))::(23,vb (a.Domain.toList == b.Domain.toList))::(4,vb (a.Domain.toList == b.Domain.toList))::[]) [0,1] [21] (zq [0] 2 5::zq [2,0] 3 6::zq [1] 4 7::zq [4,1] 5 8::zq [3,5] 6 9::zq [6] 7 10::zq [7,0] 8 11::zq [7,8,0] 9 12::zq [7,1] 10 13::zq [7,10,1] 11 14::zq [7,9,11] 12 15::zq [7,12] 13 16::zq [13] 14 17::zq [14,0] 15 18::zq [14,15,0] 16 19::zq [14,1] 17 20::zq [14,17,1] 18 21::zq [14,16,18] 19 22::zq [14,19] 20 23::zq [20] 21 4::[]) [(_,_)] rfl ⟨zp rfl (oF underlying23 rfl sz4),zp rfl (oL underlying4 rfl),zp rfl (oF underlying23 rfl sz4),zp rfl (oL underlying4 rfl),zp rfl (op_beq _ _ _ _ underlying4 rfl rfl),z8 hg1_5 rfl,zr' rfl (oF underlying23 rfl sz9),zr' rfl (oL underlying9 rfl),zr' rfl (oF underlying23 rfl sz9),zr' rfl (oL underlying9 rfl),zr' rfl (oB rfl rfl),z3 true rfl,z8 hg1_12 rfl,zr' rfl (oF underlying23 rfl sz9),zr' rfl (oL underlying9 rfl),zr' rfl (oF underlying23 rfl sz9),zr' rfl (oL underlying9 rfl),zr' rfl (oB rfl rfl),z3 true rfl,z2 rfl,zz⟩ ?_
     exact hl4 _ (Option.some.inj h).symm
    ·refine zg hn (_::_::(5,.ptr 2 0)::(6,vb a.Null)::(7,.ptr 3 0)::(8,vb b.Null)::(9,vb (a.Null == b.Null))::(10,vb true)::(11,.ptr 2 1)::(12,vs a.Local)::(13,.ptr 3 1)::(14,vs b.Local)::(15,vb (a.Local.toList == b.Local.toList))::(16,vb (a.Local.toList == b.Local.toList))::(17,vb false)::(18,.v undef)::(19,.v undef)::(20,.v undef)::(21,.v undef)::(22,.v undef)::(23,vb false)::(4,vb false)::[]) [0,1] [21] (zq [0] 2 5::zq [2,0] 3 6::zq [1] 4 7::zq [4,1] 5 8::zq [3,5] 6 9::zq [6] 7 10::zq [7,0] 8 11::zq [7,8,0] 9 12::zq [7,1] 10 13::zq [7,10,1] 11 14::zq [7,9,11] 12 15::zq [7,12] 13 16::zq [13] 14 17::zq [14] 15 18::zq [14] 16 19::zq [14] 17 20::zq [14] 18 21::zq [14] 19 22::zq [14] 20 23::zq [20] 21 4::[]) [(_,_)] rfl ⟨zp rfl (oF underlying23 rfl sz4),zp rfl (oL underlying4 rfl),zp rfl (oF underlying23 rfl sz4),zp rfl (oL underlying4 rfl),zp rfl (op_beq _ _ _ _ underlying4 rfl rfl),z8 hg1_5 rfl,zr' rfl (oF underlying23 rfl sz9),zr' rfl (oL underlying9 rfl),zr' rfl (oF underlying23 rfl sz9),zr' rfl (oL underlying9 rfl),zr' rfl (oB rfl rfl),z3 true rfl,z8 hg1_12 rfl,zt rfl,zt rfl,zt rfl,zt rfl,zt rfl,z3 false rfl,z2 rfl,zz⟩ ?_
     exact hl4 _ (Option.some.inj h).symm
   ·refine zg hn (_::_::(5,.ptr 2 0)::(6,vb a.Null)::(7,.ptr 3 0)::(8,vb b.Null)::(9,vb (a.Null == b.Null))::(10,vb false)::(11,.v undef)::(12,.v undef)::(13,.v undef)::(14,.v undef)::(15,.v undef)::(16,vb false)::(17,vb false)::(18,.v undef)::(19,.v undef)::(20,.v undef)::(21,.v undef)::(22,.v undef)::(23,vb false)::(4,vb false)::[]) [0,1] [21] (zq [0] 2 5::zq [2,0] 3 6::zq [1] 4 7::zq [4,1] 5 8::zq [3,5] 6 9::zq [6] 7 10::zq [7] 8 11::zq [7] 9 12::zq [7] 10 13::zq [7] 11 14::zq [7] 12 15::zq [7] 13 16::zq [13] 14 17::zq [14] 15 18::zq [14] 16 19::zq [14] 17 20::zq [14] 18 21::zq [14] 19 22::zq [14] 20 23::zq [20] 21 4::[]) [(_,_)] rfl ⟨zp rfl (oF underlying23 rfl sz4),zp rfl (oL underlying4 rfl),zp rfl (oF underlying23 rfl sz4),zp rfl (oL underlying4 rfl),zp rfl (op_beq _ _ _ _ underlying4 rfl rfl),z8 hg1_5 rfl,zt rfl,zt rfl,zt rfl,zt rfl,zt rfl,z3 false rfl,z1 rfl,zt rfl,zt rfl,zt rfl,zt rfl,zt rfl,z3 false rfl,z2 rfl,zz⟩ ?_
    exact hl4 _ (Option.some.inj h).symm
theorem ok_wherrykeep_Cmd (a : T_Cmd) (b : T_Cmd) (r : Bool) (h : Sh.wherrykeep_Cmd a b = some r) : FnOK Tryz.prog 12 [.agg [.v (.int .i64 a.Kind), .v (.string a.Text), .v (.bool a.Path.Null), .v (.string a.Path.Local), .v (.string a.Path.Domain), .fl .shr 2 (List.flatten (List.map T_Param.enc a.Params))], .agg [.v (.int .i64 b.Kind), .v (.string b.Text), .v (.bool b.Path.Null), .v (.string b.Path.Local), .v (.string b.Path.Domain), .fl .shr 2 (List.flatten (List.map T_Param.enc b.Params))]] (.v (.bool r)) := by
  unfold Sh.wherrykeep_Cmd at h
  refine fn_ok func12 rfl (zl rfl) rfl rfl fun g0 hn hio => ?_
  refine zgg hn [_,_,(2,.box 26 [vi a.Kind,vs a.Text,vb a.Path.Null,vs a.Path.Local,vs a.Path.Domain,.fl .shr 2 (List.flatten (List.map T_Param.enc a.Params))]),(3,.box 26 [vi b.Kind,vs b.Text,vb b.Path.Null,vs b.Path.Local,vs b.Path.Domain,.fl .shr 2 (List.flatten (List.map T_Param.enc b.Params))]),(4,vb false)] [0,1] [2,3] [zq [0] 2 2,zq [1] 3 3,zq [] 4 4] [(_,_),(_,_)] rfl ⟨zp rfl (op_box _ _ _ _ rfl rfl rfl),zp rfl (op_box _ _ _ _ rfl rfl rfl),z2 rfl,zz⟩ ?_
  refine ht_seq ?_
  refine ht_seq ?_
  refine ht_joinS h (fun (s2 : Bool) => [(2, .box 26 [.v (.int .i64 a.Kind), .v (.string a.Text), .v (.bool a.Path.Null), .v (.string a.Path.Local), .v (.string a.Path.Domain), .fl .shr 2 (List.flatten (List.map T_Param.enc a.Params))]), (3, .box 26 [.v (.int .i64 b.Kind), .v (.string b.Text), .v (.bool b.Path.Null), .v (.string b.Path.Local), .v (.string b.Path.Domain), .fl .shr 2 (List.flatten (List.map T_Param.enc b.Params))]), (34, .v (.bool s2))]) ?_ ?_
  ·rintro s2 h
   refine pt_then ?_
   refine ht_cond _ rfl (fun hb6 => ?_) (fun hb6 => ?_)
   ·have h := cond_t hb6 h
    refine zgg hn [_,_,_,(4,vb false)] [0,1,2] [3] [zq [] 3 4] [(_,_)] rfl ⟨z2 rfl,zz⟩ ?_
    refine ht_ret ?_
    refine pt_r_then ?_
    obtain rfl := Option.some.inj h
    exact pt_ret hio rfl (.tmp _ _ .nil) rfl rfl
   ·have h := cond_f hb6 h
    refine ht_skip ?_
    refine pt_then (ht_seq ?_)
    refine zgg hn [_,_,_,(5,vi 0)] [0,1,2] [0,1,3] [zq [] 3 5] [(_,_),(_,_),(_,_)] rfl ⟨z2 rfl,zz⟩ ?_
    refine ht_loopS h (fun (s29 : Int) => [(2, .box 26 [.v (.int .i64 a.Kind), .v (.string a.Text), .v (.bool a.Path.Null), .v (.string a.Path.Local), .v (.string a.Path.Domain), .fl .shr 2 (List.flatten (List.map T_Param.enc a.Params))]), (3, .box 26 [.v (.int .i64 b.Kind), .v (.string b.Text), .v (.bool b.Path.Null), .v (.string b.Path.Local), .v (.string b.Path.Domain), .fl .shr 2 (List.flatten (List.map T_Param.enc b.Params))]), (5, .v (.int .i64 s29))]) (fun (() : Unit) => []) ?_ ?_
    ·rintro ⟨⟩ h
     refine pt_then ?_
     refine zgg hn [(4,vb true)] [] [0] [zq [] 0 4] [(_,_)] rfl ⟨z2 rfl,zz⟩ ?_
     refine ht_ret ?_
     obtain rfl := Option.some.inj h
     exact pt_ret hio rfl (.tmp _ _ .nil) rfl rfl
    ·rintro u36 hl37 hr38 s29 rr41 h ho39
     refine ht_seq ?_
     refine zgg hn [_,_,_,(35,vi s29),(36,.ptr 2 5),(37,.fl .shr 2 (List.flatten (List.map T_Param.enc a.Params))),(38,vi (a.Params.length : Int)),(39,vb (decide (s29 < (a.Params.length : Int))))] [0,1,2] [0,1,2,7] [zq [2] 3 35,zq [0] 4 36,zq [4,0] 5 37,zq [5] 6 38,zq [3,6] 7 39] [(_,_),(_,_),(_,_),(_,_)] rfl ⟨z1 rfl,zp rfl (oF underlying26 rfl sz24),zp rfl (oL underlying24 rfl),zp rfl (op_len_fl _ _ _ underlying24 rfl (by decide) (flat_len T_Param.len _)),z4 rfl rfl,zz⟩ ?_
     refine ht_cond _ rfl (fun hb42 => ?_) (fun hb42 => ?_)
     ·have h := cond_t hb42 h
      refine ht_skip ?_
      refine pt_then (ht_seq ?_)
      refine ht_block ?_
      refine ht_seq ?_
      refine ht_joinS h (fun (s43 : Bool) => [(2, .box 26 [.v (.int .i64 a.Kind), .v (.string a.Text), .v (.bool a.Path.Null), .v (.string a.Path.Local), .v (.string a.Path.Domain), .fl .shr 2 (List.flatten (List.map T_Param.enc a.Params))]), (3, .box 26 [.v (.int .i64 b.Kind), .v (.string b.Text), .v (.bool b.Path.Null), .v (.string b.Path.Local), .v (.string b.Path.Domain), .fl .shr 2 (List.flatten (List.map T_Param.enc b.Params))]), (5, .v (.int .i64 s29)), (69, .v (.bool s43))]) ?_ ?_
      ·rintro s43 h
       refine pt_then ?_
       refine ht_cond _ rfl (fun hb47 => ?_) (fun hb47 => ?_)
       ·have h := cond_t hb47 h
        refine zgg hn [_,_,_,_,(4,vb false)] [0,1,2,3] [4] [zq [] 4 4] [(_,_)] rfl ⟨z2 rfl,zz⟩ ?_
        refine ht_ret ?_
        refine pt_r_in ?_
        refine pt_r_then ?_
        refine pt_r_then ?_
        refine pt_r_in ?_
        refine pt_r_then ?_
        have h := hr38 _ (ho39 _ (Option.some.inj h).symm).symm
        obtain rfl := Option.some.inj h
        exact pt_ret hio rfl (.tmp _ _ .nil) rfl rfl
       ·have h := cond_f hb47 h
        refine ht_skip ?_
        refine pt_inb ?_
        refine pt_then ?_
        obtain ⟨v21, hv21, h⟩ := bind_some h
        refine zg hn [_,_,_,_,(40,vi s29),(41,vi v21),(5,vi v21)] [0,1,2,3] [0,1,6] [zq [2] 4 40,zq [4] 5 41,⟨[5],[2],[6],[(.slot 5)]⟩] [(_,_),(_,_),(_,_)] rfl ⟨z1 rfl,zp rfl (oB rfl (ibind (f := Value.int .i64) (Option.some.inj hv21))),zp rfl (LOp.drop [_] (op_assign _ _ _ _ rfl rfl)),zz⟩ ?_
        exact pt_next _ (Option.some.inj h).symm rfl
      ·intro u44 h hl45 hr46
       obtain ⟨v8, hv8, h⟩ := bind_some h
       obtain ⟨v9, hv9, h⟩ := bind_some h
       obtain ⟨v10, hv10, h⟩ := bind_some h
       obtain ⟨v11, hv11, h⟩ := bind_some h
       refine cond_some h (fun hg6_13 h => ?_) (fun hg6_13 h => ?_)
       ·refine ht_anyR (by kernel_rfl) hn (El := (_ :: _ :: _ :: _ :: (42, .ptr 2 5) :: (43, .fl .shr 2 (List.flatten (List.map T_Param.enc a.Params))) :: (44, .v (.int .i64 s29)) :: (45, .eref (.slot 43) (v8 * 2)) :: (46, .eref (.slot 43) (v8 * 2 + 0)) :: (47, .v (.string v9.Key)) :: (48, .ptr 3 5) :: (49, .fl .shr 2 (List.flatten (List.map T_Param.enc b.Params))) :: (50, .v (.int .i64 s29)) :: (51, .eref (.slot 49) (v10 * 2)) :: (52, .eref (.slot 49) (v10 * 2 + 0)) :: (53, .v (.string v11.Key)) :: (54, .v (.bool ((!(v9.Key.toList == v11.Key.toList))))) :: (55, .v (.bool true)) :: (56, .v undef) :: (57, .v undef) :: (58, .v undef) :: (59, .v undef) :: (60, .v undef) :: (61, .v undef) :: (62, .v undef) :: (63, .v undef) :: (64, .v undef) :: (65, .v undef) :: (66, .v undef) :: (67, .v undef) :: (68, .v undef) :: (69, .v (.bool true)) :: [])) (init := [0, 1, 2, 3]) (fin := [0, 1, 2, 31]) (sps := (zq [0] 4 42 :: zq [4,0] 5 43 :: zq [2] 6 44 :: zq [5,6] 7 45 :: zq [7,5] 8 46 :: zq [8,5] 9 47 :: zq [1] 10 48 :: zq [10,1] 11 49 :: zq [2] 12 50 :: zq [11,12] 13 51 :: zq [13,11] 14 52 :: zq [14,11] 15 53 :: zq [9,15] 16 54 :: zq [16] 17 55 :: zq [17] 18 56 :: zq [17] 19 57 :: zq [17] 20 58 :: zq [17] 21 59 :: zq [17] 22 60 :: zq [17] 23 61 :: zq [17] 24 62 :: zq [17] 25 63 :: zq [17] 26 64 :: zq [17] 27 65 :: zq [17] 28 66 :: zq [17] 29 67 :: zq [17] 30 68 :: zq [17] 31 69 :: [])) (es' := [(_,_),(_,_),(_,_),(69, .v (.bool true))]) (by kernel_rfl) rfl rfl ⟨zp rfl (oF underlying26 rfl sz24),zp rfl (oL underlying24 rfl),z1 rfl,zp rfl (op_ix _ _ _ _ _ _ _ _ underlying24 sz47 (by decide) rfl rfl rfl (ix_ok hv8).1 (flat_lt T_Param.len (ix_ok hv8).2) rfl),zp rfl (op_fieldAddr_e _ _ _ _ _ _ _ underlying47 rfl sz9 rfl rfl rfl),zp rfl (op_load_e _ _ _ _ _ _ underlying9 rfl rfl rfl (flat_cell T_Param.len hv9 rfl)),zp rfl (oF underlying26 rfl sz24),zp rfl (oL underlying24 rfl),z1 rfl,zp rfl (op_ix _ _ _ _ _ _ _ _ underlying24 sz47 (by decide) rfl rfl rfl (ix_ok hv10).1 (flat_lt T_Param.len (ix_ok hv10).2) rfl),zp rfl (op_fieldAddr_e _ _ _ _ _ _ _ underlying47 rfl sz9 rfl rfl rfl),zp rfl (op_load_e _ _ _ _ _ _ underlying9 rfl rfl rfl (flat_cell T_Param.len hv11 rfl)),z4 rfl rfl,z8 hg6_13 rfl,zf rfl,zf rfl,zf rfl,zf rfl,zf rfl,zf rfl,zf rfl,zf rfl,zf rfl,zf rfl,zf rfl,zf rfl,zf rfl,z3 true rfl,zz⟩ ?_
        exact hl45 _ (Option.some.inj h).symm
       ·obtain ⟨v12, hv12, h⟩ := bind_some h
        obtain ⟨v13, hv13, h⟩ := bind_some h
        obtain ⟨v14, hv14, h⟩ := bind_some h
        obtain ⟨v15, hv15, h⟩ := bind_some h
        refine ht_anyR (by kernel_rfl) hn (El := (_ :: _ :: _ :: _ :: (42, .ptr 2 5) :: (43, .fl .shr 2 (List.flatten (List.map T_Param.enc a.Params))) :: (44, .v (.int .i64 s29)) :: (45, .eref (.slot 43) (v8 * 2)) :: (46, .eref (.slot 43) (v8 * 2 + 0)) :: (47, .v (.string v9.Key)) :: (48, .ptr 3 5) :: (49, .fl .shr 2 (List.flatten (List.map T_Param.enc b.Params))) :: (50, .v (.int .i64 s29)) :: (51, .eref (.slot 49) (v10 * 2)) :: (52, .eref (.slot 49) (v10 * 2 + 0)) :: (53, .v (.string v11.Key)) :: (54, .v (.bool ((!(v9.Key.toList == v11.Key.toList))))) :: (55, .v (.bool false)) :: (56, .ptr 2 5) :: (57, .fl .shr 2 (List.flatten (List.map T_Param.enc a.Params))) :: (58, .v (.int .i64 s29)) :: (59, .eref (.slot 57) (v12 * 2)) :: (60, .eref (.slot 57) (v12 * 2 + 1)) :: (61, .v (.string v13.Val)) :: (62, .ptr 3 5) :: (63, .fl .shr 2 (List.flatten (List.map T_Param.enc b.Params))) :: (64, .v (.int .i64 s29)) :: (65, .eref (.slot 63) (v14 * 2)) :: (66, .eref (.slot 63) (v14 * 2 + 1)) :: (67, .v (.string v15.Val)) :: (68, .v (.bool ((!(v13.Val.toList == v15.Val.toList))))) :: (69, .v (.bool ((!(v13.Val.toList == v15.Val.toList))))) :: [])) (init := [0, 1, 2, 3]) (fin := [0, 1, 2, 31]) (sps := (zq [0] 4 42 :: zq [4,0] 5 43 :: zq [2] 6 44 :: zq [5,6] 7 45 :: zq [7,5] 8 46 :: zq [8,5] 9 47 :: zq [1] 10 48 :: zq [10,1] 11 49 :: zq [2] 12 50 :: zq [11,12] 13 51 :: zq [13,11] 14 52 :: zq [14,11] 15 53 :: zq [9,15] 16 54 :: zq [16] 17 55 :: zq [17,0] 18 56 :: zq [17,18,0] 19 57 :: zq [17,2] 20 58 :: zq [17,19,20] 21 59 :: zq [17,21,19] 22 60 :: zq [17,22,19] 23 61 :: zq [17,1] 24 62 :: zq [17,24,1] 25 63 :: zq [17,2] 26 64 :: zq [17,25,26] 27 65 :: zq [17,27,25] 28 66 :: zq [17,28,25] 29 67 :: zq [17,23,29] 30 68 :: zq [17,30] 31 69 :: [])) (es' := [(_,_),(_,_),(_,_),(69, .v (.bool ((!(v13.Val.toList == v15.Val.toList)))))]) (by kernel_rfl) rfl rfl ⟨zp rfl (oF underlying26 rfl sz24),zp rfl (oL underlying24 rfl),z1 rfl,zp rfl (op_ix _ _ _ _ _ _ _ _ underlying24 sz47 (by decide) rfl rfl rfl (ix_ok hv8).1 (flat_lt T_Param.len (ix_ok hv8).2) rfl),zp rfl (op_fieldAddr_e _ _ _ _ _ _ _ underlying47 rfl sz9 rfl rfl rfl),zp rfl (op_load_e _ _ _ _ _ _ underlying9 rfl rfl rfl (flat_cell T_Param.len hv9 rfl)),zp rfl (oF underlying26 rfl sz24),zp rfl (oL underlying24 rfl),z1 rfl,zp rfl (op_ix _ _ _ _ _ _ _ _ underlying24 sz47 (by decide) rfl rfl rfl (ix_ok hv10).1 (flat_lt T_Param.len (ix_ok hv10).2) rfl),zp rfl (op_fieldAddr_e _ _ _ _ _ _ _ underlying47 rfl sz9 rfl rfl rfl),zp rfl (op_load_e _ _ _ _ _ _ underlying9 rfl rfl rfl (flat_cell T_Param.len hv11 rfl)),z4 rfl rfl,z8 hg6_13 rfl,zr' rfl (oF underlying26 rfl sz24),zr' rfl (oL underlying24 rfl),zr' rfl (oM rfl),zr' rfl (op_ix _ _ _ _ _ _ _ _ underlying24 sz47 (by decide) rfl rfl rfl (ix_ok hv12).1 (flat_lt T_Param.len (ix_ok hv12).2) rfl),zr' rfl (op_fieldAddr_e _ _ _ _ _ _ _ underlying47 rfl sz9 rfl rfl rfl),zr' rfl (op_load_e _ _ _ _ _ _ underlying9 rfl rfl rfl (flat_cell T_Param.len hv13 rfl)),zr' rfl (oF underlying26 rfl sz24),zr' rfl (oL underlying24 rfl),zr' rfl (oM rfl),zr' rfl (op_ix _ _ _ _ _ _ _ _ underlying24 sz47 (by decide) rfl rfl rfl (ix_ok hv14).1 (flat_lt T_Param.len (ix_ok hv14).2) rfl),zr' rfl (op_fieldAddr_e _ _ _ _ _ _ _ underlying47 rfl sz9 rfl rfl rfl),zr' rfl (op_load_e _ _ _ _ _ _ underlying9 rfl rfl rfl (flat_cell T_Param.len hv15 rfl)),zr' rfl (oB rfl rfl),z3 false rfl,zz⟩ ?_
        exact hl45 _ (Option.some.inj h).symm
     ·have h := cond_f hb42 h
      refine ht_exit ?_
      refine pt_x_then ?_
      refine pt_x_then ?_
      refine pt_x_in ?_
      refine pt_pick [] (by kernel_rfl) (es' := []) rfl ?_
      exact hl37 _ (ho39 _ (Option.some.inj h).symm).symm
  ·intro u3 h hl4 hr5
   refine cond_some h (fun hg1_5 h => ?_) (fun hg1_5 h => ?_)
   ·refine zg hn (_::_::(6,.ptr 2 0)::(7,vi a.Kind)::(8,.ptr 3 0)::(9,vi b.Kind)::(10,vb (a.Kind != b.Kind))::(11,vb true)::(12,.v undef)::(13,.v undef)::(14,.v undef)::(15,.v undef)::(16,.v undef)::(17,vb true)::(18,vb true)::(19,.v undef)::(20,.v undef)::(21,.v undef)::(22,.v undef)::(23,.v undef)::(24,.v undef)::(25,vb true)::(26,vb true)::(27,.v undef)::(28,.v undef)::(29,.v undef)::(30,.v undef)::(31,.v undef)::(32,.v undef)::(33,.v undef)::(34,vb true)::[]) [0,1] [0,1,30] (zq [0] 2 6::zq [2,0] 3 7::zq [1] 4 8::zq [4,1] 5 9::zq [3,5] 6 10::zq [6] 7 11::zq [7] 8 12::zq [7] 9 13::zq [7] 10 14::zq [7] 11 15::zq [7] 12 16::zq [7] 13 17::zq [13] 14 18::zq [14] 15 19::zq [14] 16 20::zq [14] 17 21::zq [14] 18 22::zq [14] 19 23::zq [14] 20 24::zq [14] 21 25::zq [21] 22 26::zq [22] 23 27::zq [22] 24 28::zq [22] 25 29::zq [22] 26 30::zq [22] 27 31::zq [22] 28 32::zq [22] 29 33::zq [22] 30 34::[]) [(_,_),(_,_),(_,_)] rfl ⟨zp rfl (oF underlying26 rfl sz3),zp rfl (oL underlying3 rfl),zp rfl (oF underlying26 rfl sz3),zp rfl (oL underlying3 rfl),z4 rfl rfl,z8 hg1_5 rfl,zf rfl,zf rfl,zf rfl,zf rfl,zf rfl,z3 true rfl,z1 rfl,zf rfl,zf rfl,zf rfl,zf rfl,zf rfl,zf rfl,z3 true rfl,z1 rfl,zf rfl,zf rfl,zf rfl,zf rfl,zf rfl,zf rfl,zf rfl,z3 true rfl,zz⟩ ?_
    exact hl4 _ (Option.some.inj h).symm
   ·refine cond_some h (fun hg1_12 h => ?_) (fun hg1_12 h => ?_)
    ·refine zg hn (_::_::(6,.ptr 2 0)::(7,vi a.Kind)::(8,.ptr 3 0)::(9,vi b.Kind)::(10,vb (a.Kind != b.Kind))::(11,vb false)::(12,.ptr 2 1)::(13,vs a.Text)::(14,.ptr 3 1)::(15,vs b.Text)::(16,vb (!(a.Text.toList == b.Text.toList)))::(17,vb (!(a.Text.toList == b.Text.toList)))::(18,vb true)::(19,.v undef)::(20,.v undef)::(21,.v undef)::(22,.v undef)::(23,.v undef)::(24,.v undef)::(25,vb true)::(26,vb true)::(27,.v undef)::(28,.v undef)::(29,.v undef)::(30,.v undef)::(31,.v undef)::(32,.v undef)::(33,.v undef)::(34,vb true)::[]) [0,1] [0,1,30] (zq [0] 2 6::zq [2,0] 3 7::zq [1] 4 8::zq [4,1] 5 9::zq [3,5] 6 10::zq [6] 7 11::zq [7,0] 8 12::zq [7,8,0] 9 13::zq [7,1] 10 14::zq [7,10,1] 11 15::zq [7,9,11] 12 16::zq [7,12] 13 17::zq [13] 14 18::zq [14] 15 19::zq [14] 16 20::zq [14] 17 21::zq [14] 18 22::zq [14] 19 23::zq [14] 20 24::zq [14] 21 25::zq [21] 22 26::zq [22] 23 27::zq [22] 24 28::zq [22] 25 29::zq [22] 26 30::zq [22] 27 31::zq [22] 28 32::zq [22] 29 33::zq [22] 30 34::[]) [(_,_),(_,_),(_,_)] rfl ⟨zp rfl (oF underlying26 rfl sz3),zp rfl (oL underlying3 rfl),zp rfl (oF underlying26 rfl sz3),zp rfl (oL underlying3 rfl),z4 rfl rfl,z8 hg1_5 rfl,zr' rfl (oF underlying26 rfl sz9),zr' rfl (oL underlying9 rfl),zr' rfl (oF underlying26 rfl sz9),zr' rfl (oL underlying9 rfl),zr' rfl (oB rfl rfl),z3 false rfl,z8 hg1_12 rfl,zf rfl,zf rfl,zf rfl,zf rfl,zf rfl,zf rfl,z3 true rfl,z1 rfl,zf rfl,zf rfl,zf rfl,zf rfl,zf rfl,zf rfl,zf rfl,z3 true rfl,zz⟩ ?_
     exact hl4 _ (Option.some.inj h).symm
    ·obtain ⟨v1, hv1, h⟩ := bind_some h
     refine cond_some h (fun hg1_20 h => ?_) (fun hg1_20 h => ?_)
     ·refine zg hn (_::_::(6,.ptr 2 0)::(7,vi a.Kind)::(8,.ptr 3 0)::(9,vi b.Kind)::(10,vb (a.Kind != b.Kind))::(11,vb false)::(12,.ptr 2 1)::(13,vs a.Text)::(14,.ptr 3 1)::(15,vs b.Text)::(16,vb (!(a.Text.toList == b.Text.toList)))::(17,vb (!(a.Text.toList == b.Text.toList)))::(18,vb false)::(19,.ptr 2 2)::(20,.agg [vb a.Path.Null,vs a.Path.Local,vs a.Path.Domain])::(21,.ptr 3 2)::(22,.agg [vb b.Path.Null,vs b.Path.Local,vs b.Path.Domain])::(23,vb v1)::(24,vb (!v1))::(25,vb (!v1))::(26,vb true)::(27,.v undef)::(28,.v undef)::(29,.v undef)::(30,.v undef)::(31,.v undef)::(32,.v undef)::(33,.v undef)::(34,vb true)::[]) [0,1] [0,1,30] (zq [0] 2 6::zq [2,0] 3 7::zq [1] 4 8::zq [4,1] 5 9::zq [3,5] 6 10::zq [6] 7 11::zq [7,0] 8 12::zq [7,8,0] 9 13::zq [7,1] 10 14::zq [7,10,1] 11 15::zq [7,9,11] 12 16::zq [7,12] 13 17::zq [13] 14 18::zq [14,0] 15 19::zq [14,15,0] 16 20::zq [14,1] 17 21::zq [14,17,1] 18 22::zq [14,16,18] 19 23::zq [14,19] 20 24::zq [14,20] 21 25::zq [21] 22 26::zq [22] 23 27::zq [22] 24 28::zq [22] 25 29::zq [22] 26 30::zq [22] 27 31::zq [22] 28 32::zq [22] 29 33::zq [22] 30 34::[]) [(_,_),(_,_),(_,_)] rfl ⟨zp rfl (oF underlying26 rfl sz3),zp rfl (oL underlying3 rfl),zp rfl (oF underlying26 rfl sz3),zp rfl (oL underlying3 rfl),z4 rfl rfl,z8 hg1_5 rfl,zr' rfl (oF underlying26 rfl sz9),zr' rfl (oL underlying9 rfl),zr' rfl (oF underlying26 rfl sz9),zr' rfl (oL underlying9 rfl),zr' rfl (oB rfl rfl),z3 false rfl,z8 hg1_12 rfl,zr' rfl (oF underlying26 rfl sz23),zr' rfl (op_loadA _ _ _ _ _ _ _ underlying23 rfl sz23 rfl rfl (zl rfl) rfl rfl),zr' rfl (oF underlying26 rfl sz23),zr' rfl (op_loadA _ _ _ _ _ _ _ underlying23 rfl sz23 rfl rfl (zl rfl) rfl rfl),zr' rfl (op_call _ _ 17 _ _ rfl call17 rfl (ok_wherrykeep_Path (T_Path.mk a.Path.Null a.Path.Local a.Path.Domain) (T_Path.mk b.Path.Null b.Path.Local b.Path.Domain) _ hv1) rfl rfl),zr' rfl (op_un _ _ _ _ rfl rfl),z3 false rfl,z8 hg1_20 rfl,zf rfl,zf rfl,zf rfl,zf rfl,zf rfl,zf rfl,zf rfl,z3 true rfl,zz⟩ ?_
      exact hl4 _ (Option.some.inj h).symm
     ·refine zg hn (_::_::(6,.ptr 2 0)::(7,vi a.Kind)::(8,.ptr 3 0)::(9,vi b.Kind)::(10,vb (a.Kind != b.Kind))::(11,vb false)::(12,.ptr 2 1)::(13,vs a.Text)::(14,.ptr 3 1)::(15,vs b.Text)::(16,vb (!(a.Text.toList == b.Text.toList)))::(17,vb (!(a.Text.toList == b.Text.toList)))::(18,vb false)::(19,.ptr 2 2)::(20,.agg [vb a.Path.Null,vs a.Path.Local,vs a.Path.Domain])::(21,.ptr 3 2)::(22,.agg [vb b.Path.Null,vs b.Path.Local,vs b.Path.Domain])::(23,vb v1)::(24,vb (!v1))::(25,vb (!v1))::(26,vb false)::(27,.ptr 2 5)::(28,.fl .shr 2 (List.flatten (List.map T_Param.enc a.Params)))::(29,vi (a.Params.length : Int))::(30,.ptr 3 5)::(31,.fl .shr 2 (List.flatten (List.map T_Param.enc b.Params)))::(32,vi (b.Params.length : Int))::(33,vb ((a.Params.length : Int) != (b.Params.length : Int)))::(34,vb ((a.Params.length : Int) != (b.Params.length : Int)))::[]) [0,1] [0,1,30] (zq [0] 2 6::zq [2,0] 3 7::zq [1] 4 8::zq [4,1] 5 9::zq [3,5] 6 10::zq [6] 7 11::zq [7,0] 8 12::zq [7,8,0] 9 13::zq [7,1] 10 14::zq [7,10,1] 11 15::zq [7,9,11] 12 16::zq [7,12] 13 17::zq [13] 14 18::zq [14,0] 15 19::zq [14,15,0] 16 20::zq [14,1] 17 21::zq [14,17,1] 18 22::zq [14,16,18] 19 23::zq [14,19] 20 24::zq [14,20] 21 25::zq [21] 22 26::zq [22,0] 23 27::zq [22,23,0] 24 28::zq [22,24] 25 29::zq [22,1] 26 30::zq [22,26,1] 27 31::zq [22,27] 28 32::zq [22,25,28] 29 33::zq [22,29] 30 34::[]) [(_,_),(_,_),(_,_)] rfl ⟨zp rfl (oF underlying26 rfl sz3),zp rfl (oL underlying3 rfl),zp rfl (oF underlying26 rfl sz3),zp rfl (oL underlying3 rfl),z4 rfl rfl,z8 hg1_5 rfl,zr' rfl (oF underlying26 rfl sz9),zr' rfl (oL underlying9 rfl),zr' rfl (oF underlying26 rfl sz9),zr' rfl (oL underlying9 rfl),zr' rfl (oB rfl rfl),z3 false rfl,z8 hg1_12 rfl,zr' rfl (oF underlying26 rfl sz23),zr' rfl (op_loadA _ _ _ _ _ _ _ underlying23 rfl sz23 rfl rfl (zl rfl) rfl rfl),zr' rfl (oF underlying26 rfl sz23),zr' rfl (op_loadA _ _ _ _ _ _ _ underlying23 rfl sz23 rfl rfl (zl rfl) rfl rfl),zr' rfl (op_call _ _ 17 _ _ rfl call17 rfl (ok_wherrykeep_Path (T_Path.mk a.Path.Null a.Path.Local a.Path.Domain) (T_Path.mk b.Path.Null b.Path.Local b.Path.Domain) _ hv1) rfl rfl),zr' rfl (op_un _ _ _ _ rfl rfl),z3 false rfl,z8 hg1_20 rfl,zr' rfl (oF underlying26 rfl sz24),zr' rfl (oL underlying24 rfl),zr' rfl (op_len_fl _ _ _ underlying24 rfl (by decide) (flat_len T_Param.len _)),zr' rfl (oF underlying26 rfl sz24),zr' rfl (oL underlying24 rfl),zr' rfl (op_len_fl _ _ _ underlying24 rfl (by decide) (flat_len T_Param.len _)),zr' rfl (oB rfl rfl),z3 false rfl,zz⟩ ?_
      exact hl4 _ (Option.some.inj h).symm
theorem ok_wherryref11_Line (c : T_Cmd) (r : (ByteArray × Bool)) (h : Sh.wherryref11_Line c = some r) : FnOK Tryz.prog 9 [.agg [.v (.int .i64 c.Kind), .v (.string c.Text), .v (.bool c.Path.Null), .v (.string c.Path.Local), .v (.string c.Path.Domain), .fl .shr 2 (List.flatten (List.map T_Param.enc c.Params))]] (.tup [.v (.string r.1), .v (.bool r.2)]) := by
  unfold Sh.wherryref11_Line at h
  refine fn_ok func9 rfl (zl rfl) rfl rfl fun g0 hn hio => ?_
  refine zgg hn [_,(1,.box 26 [vi c.Kind,vs c.Text,vb c.Path.Null,vs c.Path.Local,vs c.Path.Domain,.fl .shr 2 (List.flatten (List.map T_Param.enc c.Params))]),(2,vs z0),(3,vb false)] [0] [1] [zq [0] 1 1,zq [] 2 2,zq [] 3 3] [(_,_)] rfl ⟨zp rfl (op_box _ _ _ _ rfl rfl rfl),z2 rfl,z2 rfl,zz⟩ ?_
  refine ht_seq ?_
  obtain ⟨v1, hv1, h⟩ := bind_some h
  refine zg hn [_,(7,.agg [vi c.Kind,vs c.Text,vb c.Path.Null,vs c.Path.Local,vs c.Path.Domain,.fl .shr 2 (List.flatten (List.map T_Param.enc c.Params))]),(8,vs v1),(4,vs v1)] [0] [0,3] [zq [0] 1 7,zq [1] 2 8,zq [2] 3 4] [(_,_),(_,_)] rfl ⟨zp rfl (op_loadA _ _ _ _ _ _ _ underlying26 rfl sz26 rfl rfl (zl rfl) rfl rfl),zp rfl (op_call _ _ 31 _ _ rfl call31 rfl (ok_wherryref11_line ((T_Cmd.mk c.Kind c.Text (T_Path.mk c.Path.Null c.Path.Local c.Path.Domain) c.Params)) _ hv1) rfl rfl),z2 rfl,zz⟩ ?_
  refine pt_then (ht_seq ?_)
  obtain ⟨v2, hv2, h⟩ := bind_some h
  refine zg hn [_,_,(10,vs v1),(11,.tup [.agg [vi v2.1.Kind,vs v2.1.Text,vb v2.1.Path.Null,vs v2.1.Path.Local,vs v2.1.Path.Domain,.fl (.own 47) 2 (List.flatten (List.map T_Param.enc v2.1.Params))],vi v2.2]),(9,.tup [.agg [vi v2.1.Kind,vs v2.1.Text,vb v2.1.Path.Null,vs v2.1.Path.Local,vs v2.1.Path.Domain,.fl (.own 47) 2 (List.flatten (List.map T_Param.enc v2.1.Params))],vi v2.2]),(12,.agg [vi v2.1.Kind,vs v2.1.Text,vb v2.1.Path.Null,vs v2.1.Path.Local,vs v2.1.Path.Domain,.fl (.own 47) 2 (List.flatten (List.map T_Param.enc v2.1.Params))]),(9,.tup [.any,vi v2.2]),(13,vi v2.2),(5,.box 26 [vi 0,vs z0,vb false,vs z0,vs z0,.v (.slice none 0 0)]),(5,.box 26 [vi v2.1.Kind,vs v2.1.Text,vb v2.1.Path.Null,vs v2.1.Path.Local,vs v2.1.Path.Domain,.fl (.own 47) 2 (List.flatten (List.map T_Param.enc v2.1.Params))]),(6,vi v2.2)] [0,1] [0,1,9,10] [zq [1] 2 10,zq [2] 3 11,⟨[],[3],[4],[(.slot 9)]⟩,⟨[],[4],[6,5],[(.slot 12)]⟩,zq [6] 7 13,zq [] 8 5,⟨[],[5,8],[9],[.cell 5 0,.cell 5 1,.cell 5 2,.cell 5 3,.cell 5 4,.cell 5 5]⟩,zq [7] 10 6] [(_,_),(_,_),(_,_),(_,_)] rfl ⟨z1 rfl,zp rfl (op_call _ _ 7 _ _ rfl call7 rfl (ok_wherryref11_Verb v1 _ hv2) rfl rfl),zp rfl (op_move_take _ _ _ _ rfl),zp rfl (op_extract_take _ _ _ _ _ rfl (zl rfl) rfl rfl (by decide) rfl),zp rfl (oE rfl),zp rfl (op_alloc _ _ zr26),zp rfl (op_store_take _ _ _ _ _ _ _ _ sz26 rfl rfl rfl (zl rfl) rfl rfl),z2 rfl,zz⟩ ?_
  refine pt_then (ht_seq ?_)
  refine ht_seq ?_
  refine ht_joinS h (fun (s4 : Bool) => [(4, .v (.string v1)), (21, .v (.bool s4))]) ?_ ?_
  ·rintro s4 h
   refine pt_then ?_
   refine ht_cond _ rfl (fun hb8 => ?_) (fun hb8 => ?_)
   ·have h := cond_t hb8 h
    refine zgg hn [_,_,(2,vs z0),(3,vb false)] [0,1] [2,3] [zq [] 2 2,zq [] 3 3] [(_,_),(_,_)] rfl ⟨z2 rfl,z2 rfl,zz⟩ ?_
    refine ht_ret ?_
    refine pt_r_then ?_
    obtain rfl := Option.some.inj h
    exact pt_ret hio rfl (.tmp _ _ (.tmp _ _ .nil)) rfl rfl
   ·have h := cond_f hb8 h
    refine ht_skip ?_
    refine pt_then ?_
    refine zgg hn [_,_,(22,vs v1),(2,vs v1),(3,vb true)] [0,1] [3,4] [zq [0] 2 22,zq [2] 3 2,zq [] 4 3] [(_,_),(_,_)] rfl ⟨z1 rfl,z2 rfl,z2 rfl,zz⟩ ?_
    refine ht_ret ?_
    obtain rfl := Option.some.inj h
    exact pt_ret hio rfl (.tmp _ _ (.tmp _ _ .nil)) rfl rfl
  ·intro u5 h hl6 hr7
   refine cond_some h (fun hg3_2 h => ?_) (fun hg3_2 h => ?_)
   ·refine zg hn [_,_,_,_,(14,vi v2.2),(15,vb (v2.2 != 0)),(16,vb true),(17,.v undef),(18,.v undef),(19,.v undef),(20,.v undef),(21,vb true)] [0,1,2,3] [1,11] [zq [3] 4 14,zq [4] 5 15,zq [5] 6 16,zq [6] 7 17,zq [6] 8 18,zq [6] 9 19,zq [6] 10 20,zq [6] 11 21] [(_,_),(_,_)] rfl ⟨z1 rfl,z4 rfl rfl,z8 hg3_2 rfl,zf rfl,zf rfl,zf rfl,zf rfl,z3 true rfl,zz⟩ ?_
    exact hl6 _ (Option.some.inj h).symm
   ·obtain ⟨v3, hv3, h⟩ := bind_some h
    refine zg hn [_,_,_,_,(14,vi v2.2),(15,vb (v2.2 != 0)),(16,vb false),(17,.agg [vi v2.1.Kind,vs v2.1.Text,vb v2.1.Path.Null,vs v2.1.Path.Local,vs v2.1.Path.Domain,.fl (.own 47) 2 (List.flatten (List.map T_Param.enc v2.1.Params))]),(18,.agg [vi c.Kind,vs c.Text,vb c.Path.Null,vs c.Path.Local,vs c.Path.Domain,.fl .shr 2 (List.flatten (List.map T_Param.enc c.Params))]),(19,vb v3),(20,vb (!v3)),(21,vb (!v3))] [0,1,2,3] [1,11] [zq [3] 4 14,zq [4] 5 15,zq [5] 6 16,⟨[6],[2],[7],[(.slot 17)]⟩,zq [6,0] 8 18,zq [6,7,8] 9 19,zq [6,9] 10 20,zq [6,10] 11 21] [(_,_),(_,_)] rfl ⟨z1 rfl,z4 rfl rfl,z8 hg3_2 rfl,zr' rfl (op_loadA_take _ _ _ _ underlying26 rfl sz26 rfl rfl),zr' rfl (op_loadA _ _ _ _ _ _ _ underlying26 rfl sz26 rfl rfl (zl rfl) rfl rfl),zr' rfl (op_call _ _ 12 _ _ rfl call12 rfl (ok_wherrykeep_Cmd ((T_Cmd.mk v2.1.Kind v2.1.Text (T_Path.mk v2.1.Path.Null v2.1.Path.Local v2.1.Path.Domain) v2.1.Params)) ((T_Cmd.mk c.Kind c.Text (T_Path.mk c.Path.Null c.Path.Local c.Path.Domain) c.Params)) _ hv3) rfl rfl),zr' rfl (op_un _ _ _ _ rfl rfl),z3 false rfl,zz⟩ ?_
    exact hl6 _ (Option.some.inj h).symm
theorem ok_verb_Param (c : T_Cmd) (key : ByteArray) (r : (ByteArray × Bool)) (h : Sh.verb_Param c key = some r) : FnOK Tryz.prog 10 [.agg [.v (.int .i64 c.Kind), .v (.string c.Text), .v (.bool c.Path.Null), .v (.string c.Path.Local), .v (.string c.Path.Domain), .fl .shr 2 (List.flatten (List.map T_Param.enc c.Params))], .v (.string key)] (.tup [.v (.string r.1), .v (.bool r.2)]) := by
  unfold Sh.verb_Param at h
  refine fn_ok func10 rfl (zl rfl) rfl rfl fun g0 hn hio => ?_
  refine zgg hn [_,_,(2,.box 26 [vi c.Kind,vs c.Text,vb c.Path.Null,vs c.Path.Local,vs c.Path.Domain,.fl .shr 2 (List.flatten (List.map T_Param.enc c.Params))]),(4,vs z0),(5,vb false)] [0,1] [1,2] [zq [0] 2 2,zq [] 3 4,zq [] 4 5] [(_,_),(_,_)] rfl ⟨zp rfl (op_box _ _ _ _ rfl rfl rfl),z2 rfl,z2 rfl,zz⟩ ?_
  refine ht_seq ?_
  refine zgg hn [_,_,(8,.ptr 2 5),(9,.fl .shr 2 (List.flatten (List.map T_Param.enc c.Params))),(10,vi (c.Params.length : Int)),(11,vi 0)] [0,1] [0,3,4,5] [zq [1] 2 8,zq [2,1] 3 9,zq [3] 4 10,zq [] 5 11] [(_,_),(_,_),(_,_),(_,_)] rfl ⟨zp rfl (oF underlying26 rfl sz24),zp rfl (oL underlying24 rfl),zp rfl (op_len_fl _ _ _ underlying24 rfl (by decide) (flat_len T_Param.len _)),z1 rfl,zz⟩ ?_
  refine ht_loopS h (fun (s9 : Int) => [(1, .v (.string key)), (9, .fl .shr 2 (List.flatten (List.map T_Param.enc c.Params))), (10, .v (.int .i64 (c.Params.length : Int))), (11, .v (.int .i64 s9))]) (fun (() : Unit) => []) ?_ ?_
  ·rintro ⟨⟩ h
   refine pt_then ?_
   refine zgg hn [(4,vs z0),(5,vb false)] [] [0,1] [zq [] 0 4,zq [] 1 5] [(_,_),(_,_)] rfl ⟨z2 rfl,z2 rfl,zz⟩ ?_
   refine ht_ret ?_
   obtain rfl := Option.some.inj h
   exact pt_ret hio rfl (.tmp _ _ (.tmp _ _ .nil)) rfl rfl
  ·rintro u12 hl13 hr14 s9 rr17 h ho15
   refine zgg hn [_,_,_,_,(12,vb (decide (s9 < (c.Params.length : Int))))] [0,1,2,3] [0,1,2,3,4] [zq [3,2] 4 12] [(_,_),(_,_),(_,_),(_,_),(_,_)] rfl ⟨z4 rfl rfl,zz⟩ ?_
   refine ht_seq ?_
   refine ht_cond _ rfl (fun hb18 => ?_) (fun hb18 => ?_)
   ·have h := cond_t hb18 h
    refine ht_skip ?_
    refine pt_then (ht_seq ?_)
    refine ht_block ?_
    refine ht_seq ?_
    obtain ⟨v2, hv2, h⟩ := bind_some h
    obtain ⟨v3, hv3, h⟩ := bind_some h
    refine zg hn [_,_,_,_,_,(13,.eref (.slot 9) (v2 * 2)),(14,.agg [vs v3.Key,vs v3.Val]),(7,.box 47 [vs z0,vs z0]),(7,.box 47 [vs v3.Key,vs v3.Val])] [0,1,2,3,4] [0,1,2,3,8] [zq [1,3] 5 13,zq [5,1] 6 14,zq [] 7 7,⟨[6],[7],[8],[.cell 7 0,.cell 7 1]⟩] [(_,_),(_,_),(_,_),(_,_),(_,_)] rfl ⟨zp rfl (op_ix _ _ _ _ _ _ _ _ underlying24 sz47 (by decide) rfl rfl rfl (ix_ok hv2).1 (flat_lt T_Param.len (ix_ok hv2).2) rfl),zp rfl (op_load_eA _ _ _ _ _ _ _ underlying47 rfl sz47 rfl rfl (flat_get T_Param.len hv3) rfl (by decide)),zp rfl (op_alloc _ _ zr47),zp rfl (oS sz47 rfl),zz⟩ ?_
    refine pt_then ?_
    refine zgg hn [_,_,_,_,_,(15,.ptr 7 0),(16,vs v3.Key),(17,vs key),(18,vb (v3.Key.toList == key.toList))] [0,1,2,3,4] [0,1,2,3,4,8] [zq [4] 5 15,zq [5,4] 6 16,zq [0] 7 17,zq [6,7] 8 18] [(_,_),(_,_),(_,_),(_,_),(_,_),(_,_)] rfl ⟨zp rfl (oF underlying47 rfl sz9),zp rfl (oL underlying9 rfl),z1 rfl,z4 rfl rfl,zz⟩ ?_
    refine ht_cond _ rfl (fun hb19 => ?_) (fun hb19 => ?_)
    ·have h := cond_t hb19 h
     refine zgg hn [_,_,_,_,_,_,(19,.ptr 7 1),(20,vs v3.Val),(4,vs v3.Val),(5,vb true)] [0,1,2,3,4,5] [8,9] [zq [4] 6 19,zq [6,4] 7 20,zq [7] 8 4,zq [] 9 5] [(_,_),(_,_)] rfl ⟨zp rfl (oF underlying47 rfl sz9),zp rfl (oL underlying9 rfl),z2 rfl,z2 rfl,zz⟩ ?_
     refine ht_ret ?_
     refine pt_r_in ?_
     refine pt_r_then ?_
     refine pt_r_then ?_
     refine pt_r_in ?_
     refine pt_r_then ?_
     have h := hr14 _ (ho15 _ (Option.some.inj h).symm).symm
     obtain rfl := Option.some.inj h
     exact pt_ret hio rfl (.tmp _ _ (.tmp _ _ .nil)) rfl rfl
    ·have h := cond_f hb19 h
     refine ht_skip ?_
     refine pt_inb ?_
     refine pt_then ?_
     obtain ⟨v5, hv5, h⟩ := bind_some h
     refine zg hn [_,_,_,_,_,_,(21,vi v5),(11,vi v5)] [0,1,2,3,4,5] [0,1,2,7] [zq [3] 6 21,⟨[6],[3],[7],[(.slot 11)]⟩] [(_,_),(_,_),(_,_),(_,_)] rfl ⟨zp rfl (oB rfl (ibind (f := Value.int .i64) (Option.some.inj hv5))),zp rfl (LOp.drop [_] (oM rfl)),zz⟩ ?_
     exact pt_next _ (Option.some.inj h).symm rfl
   ·have h := cond_f hb18 h
    refine ht_exit ?_
    refine pt_x_then ?_
    refine pt_x_then ?_
    refine pt_x_in ?_
    refine pt_pick [] (by kernel_rfl) (es' := []) rfl ?_
    exact hl13 _ (ho15 _ (Option.some.inj h).symm).symm
theorem ok_wherryref11_Param (c : T_Cmd) (key : ByteArray) (r : (ByteArray × Bool)) (h : Sh.wherryref11_Param c key = some r) : FnOK Tryz.prog 11 [.agg [.v (.int .i64 c.Kind), .v (.string c.Text), .v (.bool c.Path.Null), .v (.string c.Path.Local), .v (.string c.Path.Domain), .fl .shr 2 (List.flatten (List.map T_Param.enc c.Params))], .v (.string key)] (.tup [.v (.string r.1), .v (.bool r.2)]) := by
  unfold Sh.wherryref11_Param at h
  refine fn_ok func11 rfl (zl rfl) rfl rfl fun g0 hn hio => ?_
  refine zgg hn [_,_,(2,.box 26 [vi c.Kind,vs c.Text,vb c.Path.Null,vs c.Path.Local,vs c.Path.Domain,.fl .shr 2 (List.flatten (List.map T_Param.enc c.Params))]),(4,vs z0),(5,vb false)] [0,1] [1,2] [zq [0] 2 2,zq [] 3 4,zq [] 4 5] [(_,_),(_,_)] rfl ⟨zp rfl (op_box _ _ _ _ rfl rfl rfl),z2 rfl,z2 rfl,zz⟩ ?_
  refine ht_seq ?_
  refine zgg hn [_,_,(6,vi 0)] [0,1] [0,1,2] [zq [] 2 6] [(_,_),(_,_),(_,_)] rfl ⟨z2 rfl,zz⟩ ?_
  refine ht_loopS h (fun (s11 : Int) => [(1, .v (.string key)), (2, .box 26 [.v (.int .i64 c.Kind), .v (.string c.Text), .v (.bool c.Path.Null), .v (.string c.Path.Local), .v (.string c.Path.Domain), .fl .shr 2 (List.flatten (List.map T_Param.enc c.Params))]), (6, .v (.int .i64 s11))]) (fun (() : Unit) => []) ?_ ?_
  ·rintro ⟨⟩ h
   refine pt_then ?_
   refine zgg hn [(4,vs z0),(5,vb false)] [] [0,1] [zq [] 0 4,zq [] 1 5] [(_,_),(_,_)] rfl ⟨z2 rfl,z2 rfl,zz⟩ ?_
   refine ht_ret ?_
   obtain rfl := Option.some.inj h
   exact pt_ret hio rfl (.tmp _ _ (.tmp _ _ .nil)) rfl rfl
  ·rintro u14 hl15 hr16 s11 rr19 h ho17
   refine ht_seq ?_
   refine zgg hn [_,_,_,(7,vi s11),(8,.ptr 2 5),(9,.fl .shr 2 (List.flatten (List.map T_Param.enc c.Params))),(10,vi (c.Params.length : Int)),(11,vb (decide (s11 < (c.Params.length : Int))))] [0,1,2] [0,1,2,7] [zq [2] 3 7,zq [1] 4 8,zq [4,1] 5 9,zq [5] 6 10,zq [3,6] 7 11] [(_,_),(_,_),(_,_),(_,_)] rfl ⟨z1 rfl,zp rfl (oF underlying26 rfl sz24),zp rfl (oL underlying24 rfl),zp rfl (op_len_fl _ _ _ underlying24 rfl (by decide) (flat_len T_Param.len _)),z4 rfl rfl,zz⟩ ?_
   refine ht_cond _ rfl (fun hb20 => ?_) (fun hb20 => ?_)
   ·have h := cond_t hb20 h
    refine ht_skip ?_
    refine pt_then (ht_seq ?_)
    refine ht_block ?_
    refine ht_seq ?_
    obtain ⟨v2, hv2, h⟩ := bind_some h
    obtain ⟨v3, hv3, h⟩ := bind_some h
    refine zg hn [_,_,_,_,(14,.ptr 2 5),(15,.fl .shr 2 (List.flatten (List.map T_Param.enc c.Params))),(16,vi s11),(17,.eref (.slot 15) (v2 * 2)),(18,.eref (.slot 15) (v2 * 2 + 0)),(19,vs v3.Key),(20,vs key),(21,vb (v3.Key.toList == key.toList))] [0,1,2,3] [0,1,2,11] [zq [1] 4 14,zq [4,1] 5 15,zq [2] 6 16,zq [5,6] 7 17,zq [7,5] 8 18,zq [8,5] 9 19,zq [0] 10 20,zq [9,10] 11 21] [(_,_),(_,_),(_,_),(_,_)] rfl ⟨zp rfl (oF underlying26 rfl sz24),zp rfl (oL underlying24 rfl),z1 rfl,zp rfl (op_ix _ _ _ _ _ _ _ _ underlying24 sz47 (by decide) rfl rfl rfl (ix_ok hv2).1 (flat_lt T_Param.len (ix_ok hv2).2) rfl),zp rfl (op_fieldAddr_e _ _ _ _ _ _ _ underlying47 rfl sz9 rfl rfl rfl),zp rfl (op_load_e _ _ _ _ _ _ underlying9 rfl rfl rfl (flat_cell T_Param.len hv3 rfl)),z1 rfl,z4 rfl rfl,zz⟩ ?_
    refine pt_then ?_
    refine ht_cond _ rfl (fun hb21 => ?_) (fun hb21 => ?_)
    ·have h := cond_t hb21 h
     refine ht_seq ?_
     obtain ⟨v5, hv5, h⟩ := bind_some h
     obtain ⟨v6, hv6, h⟩ := bind_some h
     refine zg hn [_,_,_,_,(22,.ptr 2 5),(23,.fl .shr 2 (List.flatten (List.map T_Param.enc c.Params))),(24,vi s11),(25,.eref (.slot 23) (v5 * 2)),(26,.eref (.slot 23) (v5 * 2 + 1)),(27,vs v6.Val),(4,vs v6.Val),(5,vb true)] [0,1,2,3] [10,11] [zq [1] 4 22,zq [4,1] 5 23,zq [2] 6 24,zq [5,6] 7 25,zq [7,5] 8 26,zq [8,5] 9 27,zq [9] 10 4,zq [] 11 5] [(_,_),(_,_)] rfl ⟨zp rfl (oF underlying26 rfl sz24),zp rfl (oL underlying24 rfl),z1 rfl,zp rfl (op_ix _ _ _ _ _ _ _ _ underlying24 sz47 (by decide) rfl rfl rfl (ix_ok hv5).1 (flat_lt T_Param.len (ix_ok hv5).2) rfl),zp rfl (op_fieldAddr_e _ _ _ _ _ _ _ underlying47 rfl sz9 rfl rfl rfl),zp rfl (op_load_e _ _ _ _ _ _ underlying9 rfl rfl rfl (flat_cell T_Param.len hv6 rfl)),z2 rfl,z2 rfl,zz⟩ ?_
     refine pt_then (ht_ret ?_)
     refine pt_r_in ?_
     refine pt_r_then ?_
     refine pt_r_then ?_
     refine pt_r_in ?_
     refine pt_r_then ?_
     have h := hr16 _ (ho17 _ (Option.some.inj h).symm).symm
     obtain rfl := Option.some.inj h
     exact pt_ret hio rfl (.tmp _ _ (.tmp _ _ .nil)) rfl rfl
    ·have h := cond_f hb21 h
     refine ht_skip ?_
     refine pt_inb ?_
     refine pt_then ?_
     obtain ⟨v7, hv7, h⟩ := bind_some h
     refine zg hn [_,_,_,_,(12,vi s11),(13,vi v7),(6,vi v7)] [0,1,2,3] [0,1,6] [zq [2] 4 12,zq [4] 5 13,⟨[5],[2],[6],[(.slot 6)]⟩] [(_,_),(_,_),(_,_)] rfl ⟨z1 rfl,zp rfl (oB rfl (ibind (f := Value.int .i64) (Option.some.inj hv7))),zp rfl (LOp.drop [_] (op_assign _ _ _ _ rfl rfl)),zz⟩ ?_
     exact pt_next _ (Option.some.inj h).symm rfl
   ·have h := cond_f hb20 h
    refine ht_exit ?_
    refine pt_x_then ?_
    refine pt_x_then ?_
    refine pt_x_in ?_
    refine pt_pick [] (by kernel_rfl) (es' := []) rfl ?_
    exact hl15 _ (ho17 _ (Option.some.inj h).symm).symm
theorem ok_wherrylaw12_wakes (mx : Int) (r : Bool) (h : Sh.wherrylaw12_wakes  = some r) : FnG Tryz.prog (GL mx) 13 [] (.v (.bool r)) := by
  unfold Sh.wherrylaw12_wakes at h
  refine fn_okG func13 rfl (zl rfl) rfl rfl fun g0 hn hio => ?_
  refine zgg hn [_,(0,vb false)] [0] [0] [zq [] 1 0] [(_,_)] rfl ⟨z2 rfl,zz⟩ ?_
  refine ht_seq ?_
  obtain ⟨v1, hv1, h⟩ := bind_some h
  refine zg hn [_,(10,.tup [.agg [vi v1.1.Kind,vs v1.1.Text,vb v1.1.Path.Null,vs v1.1.Path.Local,vs v1.1.Path.Domain,.fl .ro 2 (List.flatten (List.map T_Param.enc v1.1.Params))],vi v1.2]),(9,.tup [.agg [vi v1.1.Kind,vs v1.1.Text,vb v1.1.Path.Null,vs v1.1.Path.Local,vs v1.1.Path.Domain,.fl .ro 2 (List.flatten (List.map T_Param.enc v1.1.Params))],vi v1.2]),(11,.agg [vi v1.1.Kind,vs v1.1.Text,vb v1.1.Path.Null,vs v1.1.Path.Local,vs v1.1.Path.Domain,.fl .ro 2 (List.flatten (List.map T_Param.enc v1.1.Params))]),(12,vi v1.2),(1,.box 26 [vi 0,vs z0,vb false,vs z0,vs z0,.v (.slice none 0 0)]),(1,.box 26 [vi v1.1.Kind,vs v1.1.Text,vb v1.1.Path.Null,vs v1.1.Path.Local,vs v1.1.Path.Domain,.fl .ro 2 (List.flatten (List.map T_Param.enc v1.1.Params))]),(2,vi v1.2)] [0] [0,6,7] [zq [0] 1 10,⟨[],[1],[2],[(.slot 9)]⟩,zq [2] 3 11,zq [2] 4 12,zq [] 5 1,⟨[3],[5],[6],[.cell 1 0,.cell 1 1,.cell 1 2,.cell 1 3,.cell 1 4,.cell 1 5]⟩,zq [4] 7 2] [(_,_),(_,_),(_,_)] rfl ⟨zp rfl (op_callG _ _ 58 6 _ _ rfl call6 rfl rfl (fun _ h => h) (ok_verb_Parse mx (⟨#[109, 97, 105, 108, 32, 102, 114, 111, 109, 58, 60, 62, 32, 115, 105, 122, 101, 61, 53]⟩ : ByteArray) _ hv1) rfl rfl),zp rfl (op_move_take _ _ _ _ rfl),zp rfl (op_extract_no _ _ _ _ _ _ rfl rfl (zl rfl) rfl rfl),zp rfl (oE rfl),zp rfl (op_alloc _ _ zr26),zp rfl (oS sz26 rfl),z2 rfl,zz⟩ ?_
  refine pt_then (ht_seq ?_)
  obtain ⟨v2, hv2, h⟩ := bind_some h
  refine zg hn [_,_,_,(14,.agg [vi v1.1.Kind,vs v1.1.Text,vb v1.1.Path.Null,vs v1.1.Path.Local,vs v1.1.Path.Domain,.fl .ro 2 (List.flatten (List.map T_Param.enc v1.1.Params))]),(15,.tup [vs v2.1,vi v2.2]),(13,.tup [vs v2.1,vi v2.2]),(16,vs v2.1),(17,vi v2.2),(3,vs v2.1),(4,vi v2.2)] [0,1,2] [0,1,2,8,9] [zq [1] 3 14,zq [3,0] 4 15,⟨[],[4],[5],[(.slot 13)]⟩,zq [5] 6 16,zq [5] 7 17,zq [6] 8 3,zq [7] 9 4] [(_,_),(_,_),(_,_),(_,_),(_,_)] rfl ⟨zp rfl (op_loadA _ _ _ _ _ _ _ underlying26 rfl sz26 rfl rfl (zl rfl) rfl rfl),zp rfl (op_callG _ _ 58 8 _ _ rfl call8 rfl rfl (fun _ h => h) (ok_verb_Text mx ((T_Cmd.mk v1.1.Kind v1.1.Text (T_Path.mk v1.1.Path.Null v1.1.Path.Local v1.1.Path.Domain) v1.1.Params)) _ hv2) rfl rfl),zp rfl (op_move_take _ _ _ _ rfl),zp rfl (oE rfl),zp rfl (oE rfl),z2 rfl,z2 rfl,zz⟩ ?_
  refine pt_then (ht_seq ?_)
  obtain ⟨v3, hv3, h⟩ := bind_some h
  refine zg hn [_,_,_,_,_,(19,.agg [vi v1.1.Kind,vs v1.1.Text,vb v1.1.Path.Null,vs v1.1.Path.Local,vs v1.1.Path.Domain,.fl .ro 2 (List.flatten (List.map T_Param.enc v1.1.Params))]),(20,.tup [vs v3.1,vb v3.2]),(18,.tup [vs v3.1,vb v3.2]),(21,vs v3.1),(22,vb v3.2),(5,vs v3.1),(6,vb v3.2)] [0,1,2,3,4] [0,1,2,3,4,10,11] [zq [1] 5 19,zq [5] 6 20,⟨[],[6],[7],[(.slot 18)]⟩,zq [7] 8 21,zq [7] 9 22,zq [8] 10 5,zq [9] 11 6] [(_,_),(_,_),(_,_),(_,_),(_,_),(_,_),(_,_)] rfl ⟨zp rfl (op_loadA _ _ _ _ _ _ _ underlying26 rfl sz26 rfl rfl (zl rfl) rfl rfl),zp rfl (op_call _ _ 10 _ _ rfl call10 rfl (ok_verb_Param ((T_Cmd.mk v1.1.Kind v1.1.Text (T_Path.mk v1.1.Path.Null v1.1.Path.Local v1.1.Path.Domain) v1.1.Params)) (⟨#[83, 73, 90, 69]⟩ : ByteArray) _ hv3) rfl rfl),zp rfl (op_move_take _ _ _ _ rfl),zp rfl (oE rfl),zp rfl (oE rfl),z2 rfl,z2 rfl,zz⟩ ?_
  refine pt_then (ht_seq ?_)
  obtain ⟨v4, hv4, h⟩ := bind_some h
  refine zg hn [_,_,_,_,_,_,_,(24,.tup [.agg [vi v4.1.Kind,vs v4.1.Text,vb v4.1.Path.Null,vs v4.1.Path.Local,vs v4.1.Path.Domain,.fl .ro 2 (List.flatten (List.map T_Param.enc v4.1.Params))],vi v4.2]),(23,.tup [.agg [vi v4.1.Kind,vs v4.1.Text,vb v4.1.Path.Null,vs v4.1.Path.Local,vs v4.1.Path.Domain,.fl .ro 2 (List.flatten (List.map T_Param.enc v4.1.Params))],vi v4.2]),(25,.agg [vi v4.1.Kind,vs v4.1.Text,vb v4.1.Path.Null,vs v4.1.Path.Local,vs v4.1.Path.Domain,.fl .ro 2 (List.flatten (List.map T_Param.enc v4.1.Params))]),(26,vi v4.2),(7,.box 26 [vi 0,vs z0,vb false,vs z0,vs z0,.v (.slice none 0 0)]),(7,.box 26 [vi v4.1.Kind,vs v4.1.Text,vb v4.1.Path.Null,vs v4.1.Path.Local,vs v4.1.Path.Domain,.fl .ro 2 (List.flatten (List.map T_Param.enc v4.1.Params))]),(8,vi v4.2)] [0,1,2,3,4,5,6] [0,1,2,3,4,5,6,13] [zq [0] 7 24,⟨[],[7],[8],[(.slot 23)]⟩,zq [8] 9 25,zq [8] 10 26,zq [] 11 7,⟨[9],[11],[12],[.cell 7 0,.cell 7 1,.cell 7 2,.cell 7 3,.cell 7 4,.cell 7 5]⟩,zq [10] 13 8] [(_,_),(_,_),(_,_),(_,_),(_,_),(_,_),(_,_),(_,_)] rfl ⟨zp rfl (op_callG _ _ 58 6 _ _ rfl call6 rfl rfl (fun _ h => h) (ok_verb_Parse mx (⟨#[70, 82, 79, 66]⟩ : ByteArray) _ hv4) rfl rfl),zp rfl (op_move_take _ _ _ _ rfl),zp rfl (op_extract_no _ _ _ _ _ _ rfl rfl (zl rfl) rfl rfl),zp rfl (oE rfl),zp rfl (op_alloc _ _ zr26),zp rfl (oS sz26 rfl),z2 rfl,zz⟩ ?_
  refine pt_then (ht_seq ?_)
  refine ht_joinS h (fun (s5 : Bool) => [(58, .glob (GL mx)), (0, .v (.bool s5))]) ?_ ?_
  ·rintro s5 h
   refine pt_then (ht_ret ?_)
   refine pt_pick [1] (by kernel_rfl) (es' := [(_,_)]) rfl ?_
   obtain rfl := Option.some.inj h
   exact pt_ret hio rfl (.tmp _ _ .nil) rfl rfl
  ·intro u6 h hl7 hr8
   refine cond_some h (fun hg5_2 h => ?_) (fun hg5_2 h => ?_)
   ·refine cond_some h (fun hg5_6 h => ?_) (fun hg5_6 h => ?_)
    ·refine cond_some h (fun hg5_11 h => ?_) (fun hg5_11 h => ?_)
     ·refine cond_some h (fun hg5_16 h => ?_) (fun hg5_16 h => ?_)
      ·refine cond_some h (fun hg5_20 h => ?_) (fun hg5_20 h => ?_)
       ·refine cond_some h (fun hg5_23 h => ?_) (fun hg5_23 h => ?_)
        ·refine cond_some h (fun hg5_27 h => ?_) (fun hg5_27 h => ?_)
         ·refine zg hn (_::_::_::_::_::_::_::_::(27,vi v1.2)::(28,vb (v1.2 == 0))::(29,vb true)::(30,vi v2.2)::(31,vb (v2.2 == 0))::(32,vb (v2.2 == 0))::(33,vb true)::(34,.ptr 1 0)::(35,vi v1.1.Kind)::(36,vb (v1.1.Kind == 2))::(37,vb (v1.1.Kind == 2))::(38,vb true)::(39,.ptr 1 2)::(40,.ptr 1 2)::(41,vb v1.1.Path.Null)::(42,vb v1.1.Path.Null)::(43,vb true)::(44,vs v2.1)::(45,vb (v2.1.toList == (⟨#[77,65,73,76,32,70,82,79,77,58,60,62,32,83,73,90,69,61,53]⟩ : ByteArray).toList))::(46,vb (v2.1.toList == (⟨#[77,65,73,76,32,70,82,79,77,58,60,62,32,83,73,90,69,61,53]⟩ : ByteArray).toList))::(47,vb true)::(48,vb v3.2)::(49,vb v3.2)::(50,vb true)::(51,vs v3.1)::(52,vb (v3.1.toList == (⟨#[53]⟩ : ByteArray).toList))::(53,vb (v3.1.toList == (⟨#[53]⟩ : ByteArray).toList))::(54,vb true)::(55,vi v4.2)::(56,vb (v4.2 == 500))::(57,vb (v4.2 == 500))::(0,vb (v4.2 == 500))::[]) [0,1,2,3,4,5,6,7] [0,39] (zq [2] 8 27::zq [8] 9 28::zq [9] 10 29::zq [10,4] 11 30::zq [10,11] 12 31::zq [10,12] 13 32::zq [13] 14 33::zq [14,1] 15 34::zq [14,15,1] 16 35::zq [14,16] 17 36::zq [14,17] 18 37::zq [18] 19 38::zq [19,1] 20 39::zq [19,20,1] 21 40::zq [19,21,1] 22 41::zq [19,22] 23 42::zq [23] 24 43::zq [24,3] 25 44::zq [24,25] 26 45::zq [24,26] 27 46::zq [27] 28 47::zq [28,6] 29 48::zq [28,29] 30 49::zq [30] 31 50::zq [31,5] 32 51::zq [31,32] 33 52::zq [31,33] 34 53::zq [34] 35 54::zq [35,7] 36 55::zq [35,36] 37 56::zq [35,37] 38 57::zq [38] 39 0::[]) [(_,_),(_,_)] rfl ⟨z1 rfl,z4 rfl rfl,z8 hg5_2 rfl,zr' rfl (oM rfl),zr' rfl (oB rfl rfl),z3 true rfl,z8 hg5_6 rfl,zr' rfl (oF underlying26 rfl sz3),zr' rfl (oL underlying3 rfl),zr' rfl (oB rfl rfl),z3 true rfl,z8 hg5_11 rfl,zr' rfl (oF underlying26 rfl sz23),zr' rfl (oF underlying23 rfl sz4),zr' rfl (oL underlying4 rfl),z3 true rfl,z8 hg5_16 rfl,zr' rfl (oM rfl),zr' rfl (oB rfl rfl),z3 true rfl,z8 hg5_20 rfl,zr' rfl (oM rfl),z3 true rfl,z8 hg5_23 rfl,zr' rfl (oM rfl),zr' rfl (oB rfl rfl),z3 true rfl,z8 hg5_27 rfl,zr' rfl (oM rfl),zr' rfl (oB rfl rfl),z3 true rfl,z2 rfl,zz⟩ ?_
          exact hl7 _ (Option.some.inj h).symm
         ·refine zg hn (_::_::_::_::_::_::_::_::(27,vi v1.2)::(28,vb (v1.2 == 0))::(29,vb true)::(30,vi v2.2)::(31,vb (v2.2 == 0))::(32,vb (v2.2 == 0))::(33,vb true)::(34,.ptr 1 0)::(35,vi v1.1.Kind)::(36,vb (v1.1.Kind == 2))::(37,vb (v1.1.Kind == 2))::(38,vb true)::(39,.ptr 1 2)::(40,.ptr 1 2)::(41,vb v1.1.Path.Null)::(42,vb v1.1.Path.Null)::(43,vb true)::(44,vs v2.1)::(45,vb (v2.1.toList == (⟨#[77,65,73,76,32,70,82,79,77,58,60,62,32,83,73,90,69,61,53]⟩ : ByteArray).toList))::(46,vb (v2.1.toList == (⟨#[77,65,73,76,32,70,82,79,77,58,60,62,32,83,73,90,69,61,53]⟩ : ByteArray).toList))::(47,vb true)::(48,vb v3.2)::(49,vb v3.2)::(50,vb true)::(51,vs v3.1)::(52,vb (v3.1.toList == (⟨#[53]⟩ : ByteArray).toList))::(53,vb (v3.1.toList == (⟨#[53]⟩ : ByteArray).toList))::(54,vb false)::(55,.v undef)::(56,.v undef)::(57,vb false)::(0,vb false)::[]) [0,1,2,3,4,5,6,7] [0,39] (zq [2] 8 27::zq [8] 9 28::zq [9] 10 29::zq [10,4] 11 30::zq [10,11] 12 31::zq [10,12] 13 32::zq [13] 14 33::zq [14,1] 15 34::zq [14,15,1] 16 35::zq [14,16] 17 36::zq [14,17] 18 37::zq [18] 19 38::zq [19,1] 20 39::zq [19,20,1] 21 40::zq [19,21,1] 22 41::zq [19,22] 23 42::zq [23] 24 43::zq [24,3] 25 44::zq [24,25] 26 45::zq [24,26] 27 46::zq [27] 28 47::zq [28,6] 29 48::zq [28,29] 30 49::zq [30] 31 50::zq [31,5] 32 51::zq [31,32] 33 52::zq [31,33] 34 53::zq [34] 35 54::zq [35] 36 55::zq [35] 37 56::zq [35] 38 57::zq [38] 39 0::[]) [(_,_),(_,_)] rfl ⟨z1 rfl,z4 rfl rfl,z8 hg5_2 rfl,zr' rfl (oM rfl),zr' rfl (oB rfl rfl),z3 true rfl,z8 hg5_6 rfl,zr' rfl (oF underlying26 rfl sz3),zr' rfl (oL underlying3 rfl),zr' rfl (oB rfl rfl),z3 true rfl,z8 hg5_11 rfl,zr' rfl (oF underlying26 rfl sz23),zr' rfl (oF underlying23 rfl sz4),zr' rfl (oL underlying4 rfl),z3 true rfl,z8 hg5_16 rfl,zr' rfl (oM rfl),zr' rfl (oB rfl rfl),z3 true rfl,z8 hg5_20 rfl,zr' rfl (oM rfl),z3 true rfl,z8 hg5_23 rfl,zr' rfl (oM rfl),zr' rfl (oB rfl rfl),z3 true rfl,z8 hg5_27 rfl,zt rfl,zt rfl,z3 false rfl,z2 rfl,zz⟩ ?_
          exact hl7 _ (Option.some.inj h).symm
        ·refine zg hn (_::_::_::_::_::_::_::_::(27,vi v1.2)::(28,vb (v1.2 == 0))::(29,vb true)::(30,vi v2.2)::(31,vb (v2.2 == 0))::(32,vb (v2.2 == 0))::(33,vb true)::(34,.ptr 1 0)::(35,vi v1.1.Kind)::(36,vb (v1.1.Kind == 2))::(37,vb (v1.1.Kind == 2))::(38,vb true)::(39,.ptr 1 2)::(40,.ptr 1 2)::(41,vb v1.1.Path.Null)::(42,vb v1.1.Path.Null)::(43,vb true)::(44,vs v2.1)::(45,vb (v2.1.toList == (⟨#[77,65,73,76,32,70,82,79,77,58,60,62,32,83,73,90,69,61,53]⟩ : ByteArray).toList))::(46,vb (v2.1.toList == (⟨#[77,65,73,76,32,70,82,79,77,58,60,62,32,83,73,90,69,61,53]⟩ : ByteArray).toList))::(47,vb true)::(48,vb v3.2)::(49,vb v3.2)::(50,vb false)::(51,.v undef)::(52,.v undef)::(53,vb false)::(54,vb false)::(55,.v undef)::(56,.v undef)::(57,vb false)::(0,vb false)::[]) [0,1,2,3,4,5,6,7] [0,39] (zq [2] 8 27::zq [8] 9 28::zq [9] 10 29::zq [10,4] 11 30::zq [10,11] 12 31::zq [10,12] 13 32::zq [13] 14 33::zq [14,1] 15 34::zq [14,15,1] 16 35::zq [14,16] 17 36::zq [14,17] 18 37::zq [18] 19 38::zq [19,1] 20 39::zq [19,20,1] 21 40::zq [19,21,1] 22 41::zq [19,22] 23 42::zq [23] 24 43::zq [24,3] 25 44::zq [24,25] 26 45::zq [24,26] 27 46::zq [27] 28 47::zq [28,6] 29 48::zq [28,29] 30 49::zq [30] 31 50::zq [31] 32 51::zq [31] 33 52::zq [31] 34 53::zq [34] 35 54::zq [35] 36 55::zq [35] 37 56::zq [35] 38 57::zq [38] 39 0::[]) [(_,_),(_,_)] rfl ⟨z1 rfl,z4 rfl rfl,z8 hg5_2 rfl,zr' rfl (oM rfl),zr' rfl (oB rfl rfl),z3 true rfl,z8 hg5_6 rfl,zr' rfl (oF underlying26 rfl sz3),zr' rfl (oL underlying3 rfl),zr' rfl (oB rfl rfl),z3 true rfl,z8 hg5_11 rfl,zr' rfl (oF underlying26 rfl sz23),zr' rfl (oF underlying23 rfl sz4),zr' rfl (oL underlying4 rfl),z3 true rfl,z8 hg5_16 rfl,zr' rfl (oM rfl),zr' rfl (oB rfl rfl),z3 true rfl,z8 hg5_20 rfl,zr' rfl (oM rfl),z3 true rfl,z8 hg5_23 rfl,zt rfl,zt rfl,z3 false rfl,z1 rfl,zt rfl,zt rfl,z3 false rfl,z2 rfl,zz⟩ ?_
         exact hl7 _ (Option.some.inj h).symm
       ·refine zg hn (_::_::_::_::_::_::_::_::(27,vi v1.2)::(28,vb (v1.2 == 0))::(29,vb true)::(30,vi v2.2)::(31,vb (v2.2 == 0))::(32,vb (v2.2 == 0))::(33,vb true)::(34,.ptr 1 0)::(35,vi v1.1.Kind)::(36,vb (v1.1.Kind == 2))::(37,vb (v1.1.Kind == 2))::(38,vb true)::(39,.ptr 1 2)::(40,.ptr 1 2)::(41,vb v1.1.Path.Null)::(42,vb v1.1.Path.Null)::(43,vb true)::(44,vs v2.1)::(45,vb (v2.1.toList == (⟨#[77,65,73,76,32,70,82,79,77,58,60,62,32,83,73,90,69,61,53]⟩ : ByteArray).toList))::(46,vb (v2.1.toList == (⟨#[77,65,73,76,32,70,82,79,77,58,60,62,32,83,73,90,69,61,53]⟩ : ByteArray).toList))::(47,vb false)::(48,.v undef)::(49,vb false)::(50,vb false)::(51,.v undef)::(52,.v undef)::(53,vb false)::(54,vb false)::(55,.v undef)::(56,.v undef)::(57,vb false)::(0,vb false)::[]) [0,1,2,3,4,5,6,7] [0,39] (zq [2] 8 27::zq [8] 9 28::zq [9] 10 29::zq [10,4] 11 30::zq [10,11] 12 31::zq [10,12] 13 32::zq [13] 14 33::zq [14,1] 15 34::zq [14,15,1] 16 35::zq [14,16] 17 36::zq [14,17] 18 37::zq [18] 19 38::zq [19,1] 20 39::zq [19,20,1] 21 40::zq [19,21,1] 22 41::zq [19,22] 23 42::zq [23] 24 43::zq [24,3] 25 44::zq [24,25] 26 45::zq [24,26] 27 46::zq [27] 28 47::zq [28] 29 48::zq [28] 30 49::zq [30] 31 50::zq [31] 32 51::zq [31] 33 52::zq [31] 34 53::zq [34] 35 54::zq [35] 36 55::zq [35] 37 56::zq [35] 38 57::zq [38] 39 0::[]) [(_,_),(_,_)] rfl ⟨z1 rfl,z4 rfl rfl,z8 hg5_2 rfl,zr' rfl (oM rfl),zr' rfl (oB rfl rfl),z3 true rfl,z8 hg5_6 rfl,zr' rfl (oF underlying26 rfl sz3),zr' rfl (oL underlying3 rfl),zr' rfl (oB rfl rfl),z3 true rfl,z8 hg5_11 rfl,zr' rfl (oF underlying26 rfl sz23),zr' rfl (oF underlying23 rfl sz4),zr' rfl (oL underlying4 rfl),z3 true rfl,z8 hg5_16 rfl,zr' rfl (oM rfl),zr' rfl (oB rfl rfl),z3 true rfl,z8 hg5_20 rfl,zt rfl,z3 false rfl,z1 rfl,zt rfl,zt rfl,z3 false rfl,z1 rfl,zt rfl,zt rfl,z3 false rfl,z2 rfl,zz⟩ ?_
        exact hl7 _ (Option.some.inj h).symm
      ·refine zg hn (_::_::_::_::_::_::_::_::(27,vi v1.2)::(28,vb (v1.2 == 0))::(29,vb true)::(30,vi v2.2)::(31,vb (v2.2 == 0))::(32,vb (v2.2 == 0))::(33,vb true)::(34,.ptr 1 0)::(35,vi v1.1.Kind)::(36,vb (v1.1.Kind == 2))::(37,vb (v1.1.Kind == 2))::(38,vb true)::(39,.ptr 1 2)::(40,.ptr 1 2)::(41,vb v1.1.Path.Null)::(42,vb v1.1.Path.Null)::(43,vb false)::(44,.v undef)::(45,.v undef)::(46,vb false)::(47,vb false)::(48,.v undef)::(49,vb false)::(50,vb false)::(51,.v undef)::(52,.v undef)::(53,vb false)::(54,vb false)::(55,.v undef)::(56,.v undef)::(57,vb false)::(0,vb false)::[]) [0,1,2,3,4,5,6,7] [0,39] (zq [2] 8 27::zq [8] 9 28::zq [9] 10 29::zq [10,4] 11 30::zq [10,11] 12 31::zq [10,12] 13 32::zq [13] 14 33::zq [14,1] 15 34::zq [14,15,1] 16 35::zq [14,16] 17 36::zq [14,17] 18 37::zq [18] 19 38::zq [19,1] 20 39::zq [19,20,1] 21 40::zq [19,21,1] 22 41::zq [19,22] 23 42::zq [23] 24 43::zq [24] 25 44::zq [24] 26 45::zq [24] 27 46::zq [27] 28 47::zq [28] 29 48::zq [28] 30 49::zq [30] 31 50::zq [31] 32 51::zq [31] 33 52::zq [31] 34 53::zq [34] 35 54::zq [35] 36 55::zq [35] 37 56::zq [35] 38 57::zq [38] 39 0::[]) [(_,_),(_,_)] rfl ⟨z1 rfl,z4 rfl rfl,z8 hg5_2 rfl,zr' rfl (oM rfl),zr' rfl (oB rfl rfl),z3 true rfl,z8 hg5_6 rfl,zr' rfl (oF underlying26 rfl sz3),zr' rfl (oL underlying3 rfl),zr' rfl (oB rfl rfl),z3 true rfl,z8 hg5_11 rfl,zr' rfl (oF underlying26 rfl sz23),zr' rfl (oF underlying23 rfl sz4),zr' rfl (oL underlying4 rfl),z3 true rfl,z8 hg5_16 rfl,zt rfl,zt rfl,z3 false rfl,z1 rfl,zt rfl,z3 false rfl,z1 rfl,zt rfl,zt rfl,z3 false rfl,z1 rfl,zt rfl,zt rfl,z3 false rfl,z2 rfl,zz⟩ ?_
       exact hl7 _ (Option.some.inj h).symm
     ·refine zg hn (_::_::_::_::_::_::_::_::(27,vi v1.2)::(28,vb (v1.2 == 0))::(29,vb true)::(30,vi v2.2)::(31,vb (v2.2 == 0))::(32,vb (v2.2 == 0))::(33,vb true)::(34,.ptr 1 0)::(35,vi v1.1.Kind)::(36,vb (v1.1.Kind == 2))::(37,vb (v1.1.Kind == 2))::(38,vb false)::(39,.v undef)::(40,.v undef)::(41,.v undef)::(42,vb false)::(43,vb false)::(44,.v undef)::(45,.v undef)::(46,vb false)::(47,vb false)::(48,.v undef)::(49,vb false)::(50,vb false)::(51,.v undef)::(52,.v undef)::(53,vb false)::(54,vb false)::(55,.v undef)::(56,.v undef)::(57,vb false)::(0,vb false)::[]) [0,1,2,3,4,5,6,7] [0,39] (zq [2] 8 27::zq [8] 9 28::zq [9] 10 29::zq [10,4] 11 30::zq [10,11] 12 31::zq [10,12] 13 32::zq [13] 14 33::zq [14,1] 15 34::zq [14,15,1] 16 35::zq [14,16] 17 36::zq [14,17] 18 37::zq [18] 19 38::zq [19] 20 39::zq [19] 21 40::zq [19] 22 41::zq [19] 23 42::zq [23] 24 43::zq [24] 25 44::zq [24] 26 45::zq [24] 27 46::zq [27] 28 47::zq [28] 29 48::zq [28] 30 49::zq [30] 31 50::zq [31] 32 51::zq [31] 33 52::zq [31] 34 53::zq [34] 35 54::zq [35] 36 55::zq [35] 37 56::zq [35] 38 57::zq [38] 39 0::[]) [(_,_),(_,_)] rfl ⟨z1 rfl,z4 rfl rfl,z8 hg5_2 rfl,zr' rfl (oM rfl),zr' rfl (oB rfl rfl),z3 true rfl,z8 hg5_6 rfl,zr' rfl (oF underlying26 rfl sz3),zr' rfl (oL underlying3 rfl),zr' rfl (oB rfl rfl),z3 true rfl,z8 hg5_11 rfl,zt rfl,zt rfl,zt rfl,z3 false rfl,z1 rfl,zt rfl,zt rfl,z3 false rfl,z1 rfl,zt rfl,z3 false rfl,z1 rfl,zt rfl,zt rfl,z3 false rfl,z1 rfl,zt rfl,zt rfl,z3 false rfl,z2 rfl,zz⟩ ?_
      exact hl7 _ (Option.some.inj h).symm
    ·refine zg hn (_::_::_::_::_::_::_::_::(27,vi v1.2)::(28,vb (v1.2 == 0))::(29,vb true)::(30,vi v2.2)::(31,vb (v2.2 == 0))::(32,vb (v2.2 == 0))::(33,vb false)::(34,.v undef)::(35,.v undef)::(36,.v undef)::(37,vb false)::(38,vb false)::(39,.v undef)::(40,.v undef)::(41,.v undef)::(42,vb false)::(43,vb false)::(44,.v undef)::(45,.v undef)::(46,vb false)::(47,vb false)::(48,.v undef)::(49,vb false)::(50,vb false)::(51,.v undef)::(52,.v undef)::(53,vb false)::(54,vb false)::(55,.v undef)::(56,.v undef)::(57,vb false)::(0,vb false)::[]) [0,1,2,3,4,5,6,7] [0,39] (zq [2] 8 27::zq [8] 9 28::zq [9] 10 29::zq [10,4] 11 30::zq [10,11] 12 31::zq [10,12] 13 32::zq [13] 14 33::zq [14] 15 34::zq [14] 16 35::zq [14] 17 36::zq [14] 18 37::zq [18] 19 38::zq [19] 20 39::zq [19] 21 40::zq [19] 22 41::zq [19] 23 42::zq [23] 24 43::zq [24] 25 44::zq [24] 26 45::zq [24] 27 46::zq [27] 28 47::zq [28] 29 48::zq [28] 30 49::zq [30] 31 50::zq [31] 32 51::zq [31] 33 52::zq [31] 34 53::zq [34] 35 54::zq [35] 36 55::zq [35] 37 56::zq [35] 38 57::zq [38] 39 0::[]) [(_,_),(_,_)] rfl ⟨z1 rfl,z4 rfl rfl,z8 hg5_2 rfl,zr' rfl (oM rfl),zr' rfl (oB rfl rfl),z3 true rfl,z8 hg5_6 rfl,zt rfl,zt rfl,zt rfl,z3 false rfl,z1 rfl,zt rfl,zt rfl,zt rfl,z3 false rfl,z1 rfl,zt rfl,zt rfl,z3 false rfl,z1 rfl,zt rfl,z3 false rfl,z1 rfl,zt rfl,zt rfl,z3 false rfl,z1 rfl,zt rfl,zt rfl,z3 false rfl,z2 rfl,zz⟩ ?_
     exact hl7 _ (Option.some.inj h).symm
   ·refine zg hn (_::_::_::_::_::_::_::_::(27,vi v1.2)::(28,vb (v1.2 == 0))::(29,vb false)::(30,.v undef)::(31,.v undef)::(32,vb false)::(33,vb false)::(34,.v undef)::(35,.v undef)::(36,.v undef)::(37,vb false)::(38,vb false)::(39,.v undef)::(40,.v undef)::(41,.v undef)::(42,vb false)::(43,vb false)::(44,.v undef)::(45,.v undef)::(46,vb false)::(47,vb false)::(48,.v undef)::(49,vb false)::(50,vb false)::(51,.v undef)::(52,.v undef)::(53,vb false)::(54,vb false)::(55,.v undef)::(56,.v undef)::(57,vb false)::(0,vb false)::[]) [0,1,2,3,4,5,6,7] [0,39] (zq [2] 8 27::zq [8] 9 28::zq [9] 10 29::zq [10] 11 30::zq [10] 12 31::zq [10] 13 32::zq [13] 14 33::zq [14] 15 34::zq [14] 16 35::zq [14] 17 36::zq [14] 18 37::zq [18] 19 38::zq [19] 20 39::zq [19] 21 40::zq [19] 22 41::zq [19] 23 42::zq [23] 24 43::zq [24] 25 44::zq [24] 26 45::zq [24] 27 46::zq [27] 28 47::zq [28] 29 48::zq [28] 30 49::zq [30] 31 50::zq [31] 32 51::zq [31] 33 52::zq [31] 34 53::zq [34] 35 54::zq [35] 36 55::zq [35] 37 56::zq [35] 38 57::zq [38] 39 0::[]) [(_,_),(_,_)] rfl ⟨z1 rfl,z4 rfl rfl,z8 hg5_2 rfl,zt rfl,zt rfl,z3 false rfl,z1 rfl,zt rfl,zt rfl,zt rfl,z3 false rfl,z1 rfl,zt rfl,zt rfl,zt rfl,z3 false rfl,z1 rfl,zt rfl,zt rfl,z3 false rfl,z1 rfl,zt rfl,z3 false rfl,z1 rfl,zt rfl,zt rfl,z3 false rfl,z1 rfl,zt rfl,zt rfl,z3 false rfl,z2 rfl,zz⟩ ?_
    exact hl7 _ (Option.some.inj h).symm
end Go.Proofs.YthfmdofkkkpbkaaGreatDoor
