/-
  The model's runs are what is told in Lean.
-/
import Derived.Test.YtofbofdggabfiaaDoorProg
import Derived.KernelRfl
import Derived.Test.YtofbofdggabfiaaDoorShelf
import Derived.Test.YtofbofdggabfiaaDoorB3
import Derived.Test.YtofbofdggabfiaaDoorOkc1
set_option linter.unusedVariables false
set_option linter.unusedSimpArgs false
set_option maxHeartbeats 1000000
namespace Go.Proofs.YtofbofdggabfiaaDoor
open Go.Abs Go.Abs.Sh Tryd
open List (map flatten)
open Value (int)
theorem ok_wherryref18_Add (s : T_Spool) (p_r : T_Rec) (r : (T_Spool × Int)) (h : Sh.wherryref18_Add s p_r = some r) : FnOK Tryd.prog 15 [.agg [.fr .shr true 11 (flatten (map T_Item.ienc s.Items)), .v (.int .i64 s.Packs), .fl .shr 1 (map (int .i64) s.Sent), .fl .shr 1 (map (int .u8) s.Part), .v (.int .i64 s.Of), .fl .shr 1 (map (int .i64) s.Done)], .agg [.v (.int .i64 p_r.Kind), .v (.bool p_r.Mail.From.Null), .v (.string p_r.Mail.From.Local), .v (.string p_r.Mail.From.Domain), .fl .shr 3 (flatten (map T_Path.enc p_r.Mail.To)), .fl .shr 1 (map (int .u8) p_r.Mail.Body), .v (.bool p_r.Mail.Quiet), .v (.string p_r.Mail.Helo), .v (.int .i64 p_r.Mail.At), .v (.int .i64 p_r.Id), .fl .shr 1 (map (int .i64) p_r.Ids), .v (.int .i64 p_r.Origin), .v (.int .i64 p_r.Number), .v (.int .i64 p_r.Offset), .fl .shr 1 (map (int .u8) p_r.Data)]] (.tup [.agg [.fr (.own 75) false 11 (flatten (map T_Item.ienc r.1.Items)), .v (.int .i64 r.1.Packs), .fl (.own 3) 1 (map (int .i64) r.1.Sent), .fl (.own 5) 1 (map (int .u8) r.1.Part), .v (.int .i64 r.1.Of), .fl (.own 3) 1 (map (int .i64) r.1.Done)], .v (.int .i64 r.2)]) := by
  unfold Sh.wherryref18_Add at h
  refine fn_ok func15 rfl (zl rfl) rfl rfl fun g0 hn hio => ?_
  refine zgg hn [_,_,(2,.box 43 (T_Spool.c s [])),(3,.box 39 (T_Rec.c p_r [])),(4,.box 43 [vz,vi 0,vz,vz,vi 0,vz]),(5,vi 0)] [0,1] [2,3,4] [zq [0] 2 2,zq [1] 3 3,zq [] 4 4,zq [] 5 5] [(_,_),(_,_),(_,_)] rfl ⟨zp rfl (op_box _ _ _ _ rfl rfl rfl),zp rfl (op_box _ _ _ _ rfl rfl rfl),zp rfl (op_alloc _ _ zr43),z2 rfl,zz⟩ ?_
  refine ht_seq ?_
  obtain ⟨v1, hv1, h⟩ := zn h
  refine zg hn [_,_,_,(15,.agg (T_Spool.c s [])),(16,.agg [.fr (.own 75) false 11 (flatten (map T_Item.ienc v1.Items)),vi v1.Packs,.fl (.own 3) 1 (map (int .i64) v1.Sent),.fl (.own 5) 1 (map (int .u8) v1.Part),vi v1.Of,.fl (.own 3) 1 (map (int .i64) v1.Done)]),(6,.box 43 [vz,vi 0,vz,vz,vi 0,vz]),(6,.box 43 [.fr (.own 75) false 11 (flatten (map T_Item.ienc v1.Items)),vi v1.Packs,.fl (.own 3) 1 (map (int .i64) v1.Sent),.fl (.own 5) 1 (map (int .u8) v1.Part),vi v1.Of,.fl (.own 3) 1 (map (int .i64) v1.Done)])] [0,1,2] [0,1,2,6] [zq [0] 3 15,zq [3] 4 16,zq [] 5 6,⟨[],[4,5],[6],[.cell 6 0,.cell 6 1,.cell 6 2,.cell 6 3,.cell 6 4,.cell 6 5]⟩] [(_,_),(_,_),(_,_),(_,_)] rfl ⟨zp rfl (op_loadA _ _ _ _ _ _ _ underlying43 rfl sz43 rfl rfl (zl rfl) rfl rfl),zp rfl (op_call _ _ 29 _ _ rfl call29 rfl (ok_wherrykeep_TwinSpool s _ hv1) rfl rfl),zp rfl (op_alloc _ _ zr43),zp rfl (op_store_take _ _ _ _ _ _ _ _ sz43 rfl rfl rfl (zl rfl) rfl rfl),zz⟩ ?_
  refine pt_then ?_
  refine zgg hn [_,_,_,_,(17,.ptr 3 0),(18,vi p_r.Kind),(19,.agg [vi p_r.Kind,vb false,vs z0,vs z0,vz,vz,vb false,vs z0,vi 0,vi 0,vz,vi 0,vi 0,vi 0,vz]),(7,.box 39 [vi 0,vb false,vs z0,vs z0,vz,vz,vb false,vs z0,vi 0,vi 0,vz,vi 0,vi 0,vi 0,vz]),(7,.box 39 [vi p_r.Kind,vb false,vs z0,vs z0,vz,vz,vb false,vs z0,vi 0,vi 0,vz,vi 0,vi 0,vi 0,vz])] [0,1,2,3] [0,1,2,3,8] [zq [1] 4 17,zq [4,1] 5 18,zq [5] 6 19,zq [] 7 7,⟨[6],[7],[8],[.cell 7 0,.cell 7 1,.cell 7 2,.cell 7 3,.cell 7 4,.cell 7 5,.cell 7 6,.cell 7 7,.cell 7 8,.cell 7 9,.cell 7 10,.cell 7 11,.cell 7 12,.cell 7 13,.cell 7 14]⟩] [(_,_),(_,_),(_,_),(_,_),(_,_)] rfl ⟨zp rfl (oF underlying39 rfl sz3),zp rfl (oL underlying3 rfl),zp rfl (op_build _ _ _ _ [1, 8, 1, 1, 1, 1, 1, 1] _ _ underlying39 zr39 (fs39 _ underlying39) (.copy _ Src.nil) rfl rfl rfl),zp rfl (op_alloc _ _ zr39),zp rfl (oS sz39 rfl),zz⟩ ?_
  refine zgg hn [_,_,_,_,_,(8,vb false)] [0,1,2,3,4] [0,1,2,3,4,5] [zq [] 5 8] [(_,_),(_,_),(_,_),(_,_),(_,_),(_,_)] rfl ⟨z2 rfl,zz⟩ ?_
  refine ht_seq ?_
  refine ht_joinS h (fun ((s689,s690,s691,s692,s693,s694,s695,s696,s697,s698,s699,s700,s701,s702,s703,s704,s705,s706,s707,s708,s709) : (List T_Item) × Int × (List Int) × (List Int) × Int × (List Int) × Bool × ByteArray × ByteArray × (List T_Path) × (List Int) × Bool × ByteArray × Int × Int × (List Int) × Int × Int × Int × (List Int) × Bool) => [(3,.box 39 (T_Rec.c p_r [])),(4,.box 43 [vz,vi 0,vz,vz,vi 0,vz]),(6,.box 43 [.fr (.own 75) false 11 (flatten (map T_Item.ienc s689)),vi s690,.fl (.own 3) 1 (map (int .i64) s691),.fl (.own 5) 1 (map (int .u8) s692),vi s693,.fl (.own 3) 1 (map (int .i64) s694)]),(7,.box 39 [vi p_r.Kind,vb s695,vs s696,vs s697,.fl .shr 3 (flatten (map T_Path.enc s698)),fb s699,vb s700,vs s701,vi s702,vi s703,fi s704,vi s705,vi s706,vi s707,fb s708]),(8,vb s709)]) ?_ ?_
  ·rintro ⟨s689, s690, s691, s692, s693, s694, s695, s696, s697, s698, s699, s700, s701, s702, s703, s704, s705, s706, s707, s708, s709⟩ h
   refine pt_then (ht_seq ?_)
   refine ht_seq ?_
   refine ht_joinS h (fun (s1334 : Bool) => [(4,.box 43 [vz,vi 0,vz,vz,vi 0,vz]),(6,.box 43 [.fr (.own 75) false 11 (flatten (map T_Item.ienc s689)),vi s690,.fl (.own 3) 1 (map (int .i64) s691),.fl (.own 5) 1 (map (int .u8) s692),vi s693,.fl (.own 3) 1 (map (int .i64) s694)]),(395,vb s1334)]) ?_ ?_
   ·rintro s1334 h
    refine pt_then ?_
    refine ht_cond _ rfl (fun hb1338 => ?_) (fun hb1338 => ?_)
    ·have h := cond_t hb1338 h
     refine zgg hn [_,_,_,(396,.agg [vz,vi 0,vz,vz,vi 0,vz]),(4,.box 43 [vz,vi 0,vz,vz,vi 0,vz]),(5,vi 5)] [0,1,2] [4,5] [zq [] 3 396,⟨[],[3,0],[4],[.cell 4 0,.cell 4 1,.cell 4 2,.cell 4 3,.cell 4 4,.cell 4 5]⟩,zq [] 5 5] [(_,_),(_,_)] rfl ⟨zp rfl (op_build _ _ _ _ [1, 1, 1, 1, 1, 1] _ _ underlying43 zr43 (fs43 _ underlying43) Src.nil rfl rfl rfl),zp rfl (op_store_self _ _ _ 396 4 6 sz43 rfl rfl rfl rfl rfl (.eq _ (.eq _ (.eq _ (.eq _ (.eq _ (.eq _ (.nil _))))))) rfl),z2 rfl,zz⟩ ?_
     refine ht_ret ?_
     refine pt_sub (fs := [(4,.box 43 [.fr (.own 75) false 11 (flatten (map T_Item.ienc [])),vi 0,.fl (.own 3) 1 (map (int .i64) []),.fl (.own 5) 1 (map (int .u8) []),vi 0,.fl (.own 3) 1 (map (int .i64) [])]),(5,vi 5)]) (.box _ _ (subs_cons (sub_nil_fr 75 false 11) (subs_cons (sub_refl _) (subs_cons (sub_nil 3 1) (subs_cons (sub_nil 5 1) (subs_cons (sub_refl _) (subs_cons (sub_nil 3 1) (subs_nil))))))) rfl (.same _ .nil)) ?_
     refine pt_r_then ?_
     obtain rfl := zi h
     exact pt_ret hio rfl (.cellA _ _ _ _ underlying43 rfl sz43 (.tmp _ _ .nil)) rfl rfl
    ·have h := cond_f hb1338 h
     refine ht_skip ?_
     refine pt_then ?_
     refine zgg hn [_,_,_,(397,.agg [.fr (.own 75) false 11 (flatten (map T_Item.ienc s689)),vi s690,.fl (.own 3) 1 (map (int .i64) s691),.fl (.own 5) 1 (map (int .u8) s692),vi s693,.fl (.own 3) 1 (map (int .i64) s694)]),(4,.box 43 [.fr (.own 75) false 11 (flatten (map T_Item.ienc s689)),vi s690,.fl (.own 3) 1 (map (int .i64) s691),.fl (.own 5) 1 (map (int .u8) s692),vi s693,.fl (.own 3) 1 (map (int .i64) s694)]),(5,vi 0)] [0,1,2] [4,5] [⟨[],[1],[3],[(.slot 397)]⟩,⟨[],[3,0],[4],[.cell 4 0,.cell 4 1,.cell 4 2,.cell 4 3,.cell 4 4,.cell 4 5]⟩,zq [] 5 5] [(_,_),(_,_)] rfl ⟨zp rfl (op_loadA_take _ _ _ _ underlying43 rfl sz43 rfl rfl),zp rfl (op_store_take _ _ _ _ _ _ _ _ sz43 rfl rfl rfl (zl rfl) rfl rfl),z2 rfl,zz⟩ ?_
     refine ht_ret ?_
     obtain rfl := zi h
     exact pt_ret hio rfl (.cellA _ _ _ _ underlying43 rfl sz43 (.tmp _ _ .nil)) rfl rfl
   ·intro u1335 h hl1336 hr1337
    refine cond_some h (fun hg59_2 h => ?_) (fun hg59_2 h => ?_)
    ·refine zg hn [_,_,_,_,_,(388,vb s709),(389,vb (!s709)),(390,vb true),(391,.v undef),(392,.v undef),(393,.v undef),(394,.v undef),(395,vb true)] [0,1,2,3,4] [1,2,12] [zq [4] 5 388,zq [5] 6 389,zq [6] 7 390,zq [7] 8 391,zq [7] 9 392,zq [7] 10 393,zq [7] 11 394,zq [7] 12 395] [(_,_),(_,_),(_,_)] rfl ⟨z1 rfl,zp rfl (op_un _ _ _ _ rfl rfl),z8 hg59_2 rfl,zf rfl,zf rfl,zf rfl,zf rfl,z3 true rfl,zz⟩ ?_
     exact hl1336 _ (zi h).symm
    ·obtain ⟨v1333, hv1333, h⟩ := zn h
     refine zg hn [_,_,_,_,_,(388,vb s709),(389,vb (!s709)),(390,vb false),(391,.agg [vi p_r.Kind,vb s695,vs s696,vs s697,.fl .shr 3 (flatten (map T_Path.enc s698)),fb s699,vb s700,vs s701,vi s702,vi s703,fi s704,vi s705,vi s706,vi s707,fb s708]),(392,.agg (T_Rec.c p_r [])),(393,vb v1333),(394,vb (!v1333)),(395,vb (!v1333))] [0,1,2,3,4] [1,2,12] [zq [4] 5 388,zq [5] 6 389,zq [6] 7 390,zq [7,3] 8 391,zq [7,0] 9 392,zq [7,8,9] 10 393,zq [7,10] 11 394,zq [7,11] 12 395] [(_,_),(_,_),(_,_)] rfl ⟨z1 rfl,zp rfl (op_un _ _ _ _ rfl rfl),z8 hg59_2 rfl,zr' rfl (op_loadA _ _ _ _ _ _ _ underlying39 rfl sz39 rfl rfl (zl rfl) rfl rfl),zr' rfl (op_loadA _ _ _ _ _ _ _ underlying39 rfl sz39 rfl rfl (zl rfl) rfl rfl),zr' rfl (op_call _ _ 34 _ _ rfl call34 rfl (ok_wherrykeep_Rec ((T_Rec.mk p_r.Kind ((T_Mail.mk (T_Path.mk s695 s696 s697) s698 s699 s700 s701 s702)) s703 s704 s705 s706 s707 s708)) ((T_Rec.mk p_r.Kind ((T_Mail.mk (T_Path.mk p_r.Mail.From.Null p_r.Mail.From.Local p_r.Mail.From.Domain) p_r.Mail.To p_r.Mail.Body p_r.Mail.Quiet p_r.Mail.Helo p_r.Mail.At)) p_r.Id p_r.Ids p_r.Origin p_r.Number p_r.Offset p_r.Data)) _ hv1333) rfl rfl),zr' rfl (op_un _ _ _ _ rfl rfl),z3 false rfl,zz⟩ ?_
     exact hl1336 _ (zi h).symm
  ·intro u710 h hl711 hr712
   refine zgg hn [_,_,_,_,_,_,(20,.ptr 3 0),(21,vi p_r.Kind)] [0,1,2,3,4,5] [0,1,2,3,4,5,7] [zq [1] 6 20,zq [6,1] 7 21] [(_,_),(_,_),(_,_),(_,_),(_,_),(_,_),(_,_)] rfl ⟨zp rfl (oF underlying39 rfl sz3),zp rfl (oL underlying3 rfl),zz⟩ ?_
   refine ht_joinS h (fun ((s1011,s1012,s1013,s1014,s1015,s1016,s1017,s1018,s1019,s1020,s1021,s1022,s1023,s1024,s1025,s1026,s1027,s1028,s1029,s1030,s1031) : (List T_Item) × Int × (List Int) × (List Int) × Int × (List Int) × Bool × ByteArray × ByteArray × (List T_Path) × (List Int) × Bool × ByteArray × Int × Int × (List Int) × Int × Int × Int × (List Int) × Bool) => [(3,.box 39 (T_Rec.c p_r [])),(4,.box 43 [vz,vi 0,vz,vz,vi 0,vz]),(6,.box 43 [.fr (.own 75) false 11 (flatten (map T_Item.ienc s1011)),vi s1012,.fl (.own 3) 1 (map (int .i64) s1013),.fl (.own 5) 1 (map (int .u8) s1014),vi s1015,.fl (.own 3) 1 (map (int .i64) s1016)]),(7,.box 39 [vi p_r.Kind,vb s1017,vs s1018,vs s1019,.fl .shr 3 (flatten (map T_Path.enc s1020)),fb s1021,vb s1022,vs s1023,vi s1024,vi s1025,fi s1026,vi s1027,vi s1028,vi s1029,fb s1030]),(8,vb s1031)]) ?_ ?_
   ·rintro ⟨s1011, s1012, s1013, s1014, s1015, s1016, s1017, s1018, s1019, s1020, s1021, s1022, s1023, s1024, s1025, s1026, s1027, s1028, s1029, s1030, s1031⟩ h
    exact hl711 _ (zi h).symm
   ·intro u1032 h hl1033 hr1034
    refine ht_block ?_
    refine zgg hn [_,_,_,_,_,_,_,(23,vb (p_r.Kind == 1)),(22,vb (p_r.Kind == 1))] [0,1,2,3,4,5,6] [0,1,2,3,4,5,6,8] [zq [6] 7 23,zq [7] 8 22] [(_,_),(_,_),(_,_),(_,_),(_,_),(_,_),(_,_),(_,_)] rfl ⟨z4 rfl rfl,z2 rfl,zz⟩ ?_
    refine ht_cond _ rfl (fun hb1035 => ?_) (fun hb1035 => ?_)
    ·have h := cond_t hb1035 h
     refine ht_seq ?_
     refine ht_anyR (by kernel_rfl) hn (El := (_ :: _ :: _ :: _ :: _ :: _ :: _ :: _ :: (24,.ptr 3 1) :: (25,.agg (T_Mail.c p_r.Mail [])) :: (26,.ptr 3 9) :: (27,vi p_r.Id) :: (28,.ptr 3 11) :: (29,vi p_r.Origin) :: (30,.ptr 7 1) :: (7,.box 39 (vi p_r.Kind::T_Mail.c p_r.Mail [vi 0,vz,vi 0,vi 0,vi 0,vz])) :: (31,.ptr 7 9) :: (7,.box 39 (vi p_r.Kind::T_Mail.c p_r.Mail [vi p_r.Id,vz,vi 0,vi 0,vi 0,vz])) :: (32,.ptr 7 11) :: (7,.box 39 (vi p_r.Kind::T_Mail.c p_r.Mail [vi p_r.Id,vz,vi p_r.Origin,vi 0,vi 0,vz])) :: [])) (init := [0,1,2,3,4,5,6,7]) (fin := [0,1,2,3,19]) (sps := [zq [1] 8 24,zq [8,1] 9 25,zq [1] 10 26,zq [10,1] 11 27,zq [1] 12 28,zq [12,1] 13 29,zq [4] 14 30,⟨[14,9],[4],[15],[.cell 7 1,.cell 7 2,.cell 7 3,.cell 7 4,.cell 7 5,.cell 7 6,.cell 7 7,.cell 7 8]⟩,zq [15] 16 31,⟨[16,11],[15],[17],[.cell 7 9]⟩,zq [17] 18 32,⟨[18,13],[17],[19],[.cell 7 11]⟩]) (es' := [(_,_),(_,_),(_,_),(_,_),(7,.box 39 (vi p_r.Kind::T_Mail.c p_r.Mail [vi p_r.Id,vz,vi p_r.Origin,vi 0,vi 0,vz]))]) (by kernel_rfl) rfl rfl ⟨zp rfl (oF underlying39 rfl sz36),zp rfl (op_loadA _ _ _ _ _ _ _ underlying36 rfl sz36 rfl rfl (zl rfl) rfl rfl),zp rfl (oF underlying39 rfl sz3),zp rfl (oL underlying3 rfl),zp rfl (oF underlying39 rfl sz3),zp rfl (oL underlying3 rfl),zp rfl (oF underlying39 rfl sz36),zp rfl (oS sz36 rfl),zp rfl (oF underlying39 rfl sz3),zp rfl (oS sz3 rfl),zp rfl (oF underlying39 rfl sz3),zp rfl (oS sz3 rfl),zz⟩ ?_
     refine pt_then (ht_seq ?_)
     refine ht_joinS h (fun (s1036 : Bool) => [(3,.box 39 (T_Rec.c p_r [])),(4,.box 43 [vz,vi 0,vz,vz,vi 0,vz]),(6,.box 43 [.fr (.own 75) false 11 (flatten (map T_Item.ienc v1.Items)),vi v1.Packs,.fl (.own 3) 1 (map (int .i64) v1.Sent),.fl (.own 5) 1 (map (int .u8) v1.Part),vi v1.Of,.fl (.own 3) 1 (map (int .i64) v1.Done)]),(7,.box 39 (vi p_r.Kind::T_Mail.c p_r.Mail [vi p_r.Id,vz,vi p_r.Origin,vi 0,vi 0,vz])),(8,vb s1036)]) ?_ ?_
     ·rintro s1036 h
      refine pt_then ?_
      refine zgg hn [_,_,_,_,_,(9,vi 1)] [0,1,2,3,4] [0,1,2,3,4,5] [zq [] 5 9] [(_,_),(_,_),(_,_),(_,_),(_,_),(_,_)] rfl ⟨z2 rfl,zz⟩ ?_
      refine ht_seq ?_
      refine ht_joinS h (fun (s1041 : Int) => [(3,.box 39 (T_Rec.c p_r [])),(4,.box 43 [vz,vi 0,vz,vz,vi 0,vz]),(6,.box 43 [.fr (.own 75) false 11 (flatten (map T_Item.ienc v1.Items)),vi v1.Packs,.fl (.own 3) 1 (map (int .i64) v1.Sent),.fl (.own 5) 1 (map (int .u8) v1.Part),vi v1.Of,.fl (.own 3) 1 (map (int .i64) v1.Done)]),(7,.box 39 (vi p_r.Kind::T_Mail.c p_r.Mail [vi p_r.Id,vz,vi p_r.Origin,vi 0,vi 0,vz])),(8,vb s1036),(9,vi s1041)]) ?_ ?_
      ·rintro s1041 h
       refine pt_then ?_
       obtain ⟨v16, hv16, h⟩ := zn h
       obtain ⟨v17, hv17, h⟩ := zn h
       refine ht_anyR (by kernel_rfl) hn (El := (_ :: _ :: _ :: _ :: _ :: _ :: (59,.ptr 6 0) :: (60,.same (.cell 6 0)) :: (61,.ptr 3 9) :: (62,vi p_r.Id) :: (63,.ptr 3 1) :: (64,.agg (T_Mail.c p_r.Mail [])) :: (65,.agg [vb v16.From.Null,vs v16.From.Local,vs v16.From.Domain,.fl (.own 24) 3 (flatten (map T_Path.enc v16.To)),.fl (.own 5) 1 (map (int .u8) v16.Body),vb v16.Quiet,vs v16.Helo,vi v16.At]) :: (66,vi s1041) :: (67,.agg [vi p_r.Id,vb v16.From.Null,vs v16.From.Local,vs v16.From.Domain,.fl (.own 24) 3 (flatten (map T_Path.enc v16.To)),.fl (.own 5) 1 (map (int .u8) v16.Body),vb v16.Quiet,vs v16.Helo,vi v16.At,vi s1041,vi 0]) :: (68,.fr (.own 75) false 11 (flatten (map T_Item.ienc [(T_Item.mk p_r.Id ((T_Mail.mk (T_Path.mk v16.From.Null v16.From.Local v16.From.Domain) v16.To v16.Body v16.Quiet v16.Helo v16.At)) s1041 0)]))) :: (69,.fr (.own 75) false 11 (flatten (map T_Item.ienc v17))) :: (6,.box 43 [.any,vi v1.Packs,.fl (.own 3) 1 (map (int .i64) v1.Sent),.fl (.own 5) 1 (map (int .u8) v1.Part),vi v1.Of,.fl (.own 3) 1 (map (int .i64) v1.Done)]) :: (70,.ptr 6 0) :: (6,.box 43 [.fr (.own 75) false 11 (flatten (map T_Item.ienc v17)),vi v1.Packs,.fl (.own 3) 1 (map (int .i64) v1.Sent),.fl (.own 5) 1 (map (int .u8) v1.Part),vi v1.Of,.fl (.own 3) 1 (map (int .i64) v1.Done)]) :: [])) (init := [0,1,2,3,4,5]) (fin := [0,1,19,3,4]) (sps := [zq [2] 6 59,zq [6,2] 7 60,zq [0] 8 61,zq [8,0] 9 62,zq [0] 10 63,zq [10,0] 11 64,zq [11] 12 65,zq [5] 13 66,⟨[9,13],[12],[14],[(.slot 67)]⟩,⟨[],[14],[15],[(.slot 68)]⟩,⟨[7,15],[2],[17,16],[(.slot 69)]⟩,zq [17] 18 70,⟨[18],[7,16,17],[19],[.cell 6 0]⟩]) (es' := [(_,_),(_,_),(6,.box 43 [.fr (.own 75) false 11 (flatten (map T_Item.ienc v17)),vi v1.Packs,.fl (.own 3) 1 (map (int .i64) v1.Sent),.fl (.own 5) 1 (map (int .u8) v1.Part),vi v1.Of,.fl (.own 3) 1 (map (int .i64) v1.Done)]),(_,_),(_,_)]) (by kernel_rfl) rfl rfl ⟨zp rfl (oF underlying43 rfl sz41),zp rfl (oL underlying41 rfl),zp rfl (oF underlying39 rfl sz3),zp rfl (oL underlying3 rfl),zp rfl (oF underlying39 rfl sz36),zp rfl (op_loadA _ _ _ _ _ _ _ underlying36 rfl sz36 rfl rfl (zl rfl) rfl rfl),zp rfl (op_call _ _ 32 _ _ rfl call32 rfl (ok_wherrykeep_TwinMail ((T_Mail.mk (T_Path.mk p_r.Mail.From.Null p_r.Mail.From.Local p_r.Mail.From.Domain) p_r.Mail.To p_r.Mail.Body p_r.Mail.Quiet p_r.Mail.Helo p_r.Mail.At)) _ hv16) rfl rfl),z1 rfl,zp rfl (op_build _ _ _ _ [1,8,1,1] _ _ underlying75 zr75 (fs75 _ underlying75) (.copy _ (.take _ _ (.copy _ Src.nil))) rfl rfl rfl),zp rfl (op_build1_fr_take _ _ _ 11 (.agg #[.int .i64 0,.bool false,.string ByteArray.empty,.string ByteArray.empty,.slice none 0 0,.slice none 0 0,.bool false,.string ByteArray.empty,.int .i64 0,.int .i64 0,.int .i64 0]) false _ _ underlying41 sz75 zr75 rfl (.cons (.v _) (.cons (.v _) (.cons (.v _) (.cons (.v _) (.cons (.ro _ _ rfl) (.cons (.ro _ _ rfl) (.cons (.v _) (.cons (.v _) (.cons (.v _) (.cons (.v _) (.cons (.v _) (.nil)))))))))))) rfl (by decide) (by decide)),zp rfl (op_app_fr_cell _ 69 6 0 _ _ el41 rfl rfl (zl rfl) rfl (gflat_len T_Item.ilen _) (gflat_len T_Item.ilen _) hv17 (gflat_app (app_eq hv17)) (by decide) (by decide) (by decide) rfl rfl),zp rfl (oF underlying43 rfl sz41),zp rfl (LOp.drop [_] (op_store_take _ _ _ _ _ _ _ _ sz41 rfl rfl rfl (zl rfl) rfl rfl)),zz⟩ ?_
       refine pt_inb ?_
       refine pt_sub (fs := [(3,.box 39 (T_Rec.c p_r [])),(4,.box 43 [vz,vi 0,vz,vz,vi 0,vz]),(6,.box 43 [.fr (.own 75) false 11 (flatten (map T_Item.ienc v17)),vi v1.Packs,.fl (.own 3) 1 (map (int .i64) v1.Sent),.fl (.own 5) 1 (map (int .u8) v1.Part),vi v1.Of,.fl (.own 3) 1 (map (int .i64) v1.Done)]),(7,.box 39 (vi p_r.Kind::T_Mail.c p_r.Mail [vi p_r.Id,fi [],vi p_r.Origin,vi 0,vi 0,fb []])),(8,vb s1036)]) (.same _ (.same _ (.same _ (.box _ _ (subs_cons (sub_refl _) (subs_cons (sub_refl _) (subs_cons (sub_refl _) (subs_cons (sub_refl _) (subs_cons (sub_refl _) (subs_cons (sub_refl _) (subs_cons (sub_refl _) (subs_cons (sub_refl _) (subs_cons (sub_refl _) (subs_cons (sub_refl _) (subs_cons (sub_nil_shr 1) (subs_cons (sub_refl _) (subs_cons (sub_refl _) (subs_cons (sub_refl _) (subs_cons (sub_nil_shr 1) (subs_nil)))))))))))))))) rfl (.same _ .nil))))) ?_
       exact hl1033 _ (zi h).symm
      ·intro u1042 h hl1043 hr1044
       refine zgg hn [_,_,_,_,_,_,(56,.ptr 3 11),(57,vi p_r.Origin),(58,vb (p_r.Origin == 0))] [0,1,2,3,4,5] [0,1,2,3,4,5,8] [zq [0] 6 56,zq [6,0] 7 57,zq [7] 8 58] [(_,_),(_,_),(_,_),(_,_),(_,_),(_,_),(_,_)] rfl ⟨zp rfl (oF underlying39 rfl sz3),zp rfl (oL underlying3 rfl),z4 rfl rfl,zz⟩ ?_
       refine ht_cond _ rfl (fun hb1045 => ?_) (fun hb1045 => ?_)
       ·have h := cond_t hb1045 h
        refine zg hn [_,_,_,_,_,_,_,(9,vi 3)] [0,1,2,3,4,5,6] [0,1,2,3,4,7] [⟨[],[5],[7],[(.slot 9)]⟩] [(_,_),(_,_),(_,_),(_,_),(_,_),(_,_)] rfl ⟨zp rfl (LOp.drop [_] (op_assign _ _ _ _ rfl rfl)),zz⟩ ?_
        exact hl1043 _ (zi h).symm
       ·have h := cond_f hb1045 h
        refine ht_skip ?_
        refine pt_pick [0,1,2,3,4,5] (by kernel_rfl) (es' := [(_,_),(_,_),(_,_),(_,_),(_,_),(_,_)]) rfl ?_
        exact hl1043 _ (zi h).symm
     ·intro u1037 h hl1038 hr1039
      obtain ⟨v3, hv3, h⟩ := zn h
      refine cond_some h (fun hg7_7 h => ?_) (fun hg7_7 h => ?_)
      ·refine cond_some h (fun hg7_13 h => ?_) (fun hg7_13 h => ?_)
       ·obtain ⟨v4, hv4, h⟩ := zn h
        refine cond_some h (fun hg7_18 h => ?_) (fun hg7_18 h => ?_)
        ·obtain ⟨v5, hv5, h⟩ := zn h
         refine zg hn (_::_::_::_::_::(33,.ptr 3 9)::(34,vi p_r.Id)::(35,.ptr 2 0)::(36,.fr .shr true 11 (flatten (map T_Item.ienc s.Items)))::(37,vi (s.Items.length : Int))::(38,vi v3)::(39,vb (p_r.Id == v3))::(40,vb true)::(41,.ptr 2 0)::(42,.fr .shr true 11 (flatten (map T_Item.ienc s.Items)))::(43,vi (s.Items.length : Int))::(44,vb (decide ((s.Items.length : Int) < 60)))::(45,vb (decide ((s.Items.length : Int) < 60)))::(46,vb true)::(47,.ptr 3 11)::(48,vi p_r.Origin)::(49,vb v4)::(50,vb v4)::(51,vb true)::(52,.ptr 3 1)::(53,.agg (T_Mail.c p_r.Mail []))::(54,vb v5)::(55,vb v5)::(8,vb v5)::[]) [0,1,2,3,4] [1,2,3,4,28] (zq [1] 5 33::zq [5,1] 6 34::zq [0] 7 35::zq [7,0] 8 36::zq [8] 9 37::zq [9] 10 38::zq [6,10] 11 39::zq [11] 12 40::zq [12,0] 13 41::zq [12,13,0] 14 42::zq [12,14] 15 43::zq [12,15] 16 44::zq [12,16] 17 45::zq [17] 18 46::zq [18,1] 19 47::zq [18,19,1] 20 48::zq [18,20] 21 49::zq [18,21] 22 50::zq [22] 23 51::zq [23,1] 24 52::zq [23,24,1] 25 53::zq [23,25] 26 54::zq [23,26] 27 55::zq [27] 28 8::[]) [(_,_),(_,_),(_,_),(_,_),(_,_)] rfl ⟨zp rfl (oF underlying39 rfl sz3),zp rfl (oL underlying3 rfl),zp rfl (oF underlying43 rfl sz41),zp rfl (oL underlying41 rfl),zp rfl (op_len_fr _ _ _ underlying41 rfl (by decide) (gflat_len T_Item.ilen _)),zp rfl (oB rfl (ibind (f := int .i64) (Option.some.inj hv3))),z4 rfl rfl,z8 hg7_7 rfl,zr' rfl (oF underlying43 rfl sz41),zr' rfl (oL underlying41 rfl),zr' rfl (op_len_fr _ _ _ underlying41 rfl (by decide) (gflat_len T_Item.ilen _)),zr' rfl (oB rfl rfl),z3 true rfl,z8 hg7_13 rfl,zr' rfl (oF underlying39 rfl sz3),zr' rfl (oL underlying3 rfl),zr' rfl (op_call _ _ 30 _ _ rfl call30 rfl (ok_wherryref18_in p_r.Origin 0 1 _ hv4) rfl rfl),z3 true rfl,z8 hg7_18 rfl,zr' rfl (oF underlying39 rfl sz36),zr' rfl (op_loadA _ _ _ _ _ _ _ underlying36 rfl sz36 rfl rfl (zl rfl) rfl rfl),zr' rfl (op_call _ _ 31 _ _ rfl call31 rfl (ok_wherryref18_mail ((T_Mail.mk (T_Path.mk p_r.Mail.From.Null p_r.Mail.From.Local p_r.Mail.From.Domain) p_r.Mail.To p_r.Mail.Body p_r.Mail.Quiet p_r.Mail.Helo p_r.Mail.At)) _ hv5) rfl rfl),z3 true rfl,z2 rfl,zz⟩ ?_
         exact hl1038 _ (zi h).symm
        ·refine zg hn (_::_::_::_::_::(33,.ptr 3 9)::(34,vi p_r.Id)::(35,.ptr 2 0)::(36,.fr .shr true 11 (flatten (map T_Item.ienc s.Items)))::(37,vi (s.Items.length : Int))::(38,vi v3)::(39,vb (p_r.Id == v3))::(40,vb true)::(41,.ptr 2 0)::(42,.fr .shr true 11 (flatten (map T_Item.ienc s.Items)))::(43,vi (s.Items.length : Int))::(44,vb (decide ((s.Items.length : Int) < 60)))::(45,vb (decide ((s.Items.length : Int) < 60)))::(46,vb true)::(47,.ptr 3 11)::(48,vi p_r.Origin)::(49,vb v4)::(50,vb v4)::(51,vb false)::(52,.v undef)::(53,.v undef)::(54,.v undef)::(55,vb false)::(8,vb false)::[]) [0,1,2,3,4] [1,2,3,4,28] (zq [1] 5 33::zq [5,1] 6 34::zq [0] 7 35::zq [7,0] 8 36::zq [8] 9 37::zq [9] 10 38::zq [6,10] 11 39::zq [11] 12 40::zq [12,0] 13 41::zq [12,13,0] 14 42::zq [12,14] 15 43::zq [12,15] 16 44::zq [12,16] 17 45::zq [17] 18 46::zq [18,1] 19 47::zq [18,19,1] 20 48::zq [18,20] 21 49::zq [18,21] 22 50::zq [22] 23 51::zq [23] 24 52::zq [23] 25 53::zq [23] 26 54::zq [23] 27 55::zq [27] 28 8::[]) [(_,_),(_,_),(_,_),(_,_),(_,_)] rfl ⟨zp rfl (oF underlying39 rfl sz3),zp rfl (oL underlying3 rfl),zp rfl (oF underlying43 rfl sz41),zp rfl (oL underlying41 rfl),zp rfl (op_len_fr _ _ _ underlying41 rfl (by decide) (gflat_len T_Item.ilen _)),zp rfl (oB rfl (ibind (f := int .i64) (Option.some.inj hv3))),z4 rfl rfl,z8 hg7_7 rfl,zr' rfl (oF underlying43 rfl sz41),zr' rfl (oL underlying41 rfl),zr' rfl (op_len_fr _ _ _ underlying41 rfl (by decide) (gflat_len T_Item.ilen _)),zr' rfl (oB rfl rfl),z3 true rfl,z8 hg7_13 rfl,zr' rfl (oF underlying39 rfl sz3),zr' rfl (oL underlying3 rfl),zr' rfl (op_call _ _ 30 _ _ rfl call30 rfl (ok_wherryref18_in p_r.Origin 0 1 _ hv4) rfl rfl),z3 true rfl,z8 hg7_18 rfl,zt rfl,zt rfl,zt rfl,z3 false rfl,z2 rfl,zz⟩ ?_
         exact hl1038 _ (zi h).symm
       ·refine zg hn (_::_::_::_::_::(33,.ptr 3 9)::(34,vi p_r.Id)::(35,.ptr 2 0)::(36,.fr .shr true 11 (flatten (map T_Item.ienc s.Items)))::(37,vi (s.Items.length : Int))::(38,vi v3)::(39,vb (p_r.Id == v3))::(40,vb true)::(41,.ptr 2 0)::(42,.fr .shr true 11 (flatten (map T_Item.ienc s.Items)))::(43,vi (s.Items.length : Int))::(44,vb (decide ((s.Items.length : Int) < 60)))::(45,vb (decide ((s.Items.length : Int) < 60)))::(46,vb false)::(47,.v undef)::(48,.v undef)::(49,.v undef)::(50,vb false)::(51,vb false)::(52,.v undef)::(53,.v undef)::(54,.v undef)::(55,vb false)::(8,vb false)::[]) [0,1,2,3,4] [1,2,3,4,28] (zq [1] 5 33::zq [5,1] 6 34::zq [0] 7 35::zq [7,0] 8 36::zq [8] 9 37::zq [9] 10 38::zq [6,10] 11 39::zq [11] 12 40::zq [12,0] 13 41::zq [12,13,0] 14 42::zq [12,14] 15 43::zq [12,15] 16 44::zq [12,16] 17 45::zq [17] 18 46::zq [18] 19 47::zq [18] 20 48::zq [18] 21 49::zq [18] 22 50::zq [22] 23 51::zq [23] 24 52::zq [23] 25 53::zq [23] 26 54::zq [23] 27 55::zq [27] 28 8::[]) [(_,_),(_,_),(_,_),(_,_),(_,_)] rfl ⟨zp rfl (oF underlying39 rfl sz3),zp rfl (oL underlying3 rfl),zp rfl (oF underlying43 rfl sz41),zp rfl (oL underlying41 rfl),zp rfl (op_len_fr _ _ _ underlying41 rfl (by decide) (gflat_len T_Item.ilen _)),zp rfl (oB rfl (ibind (f := int .i64) (Option.some.inj hv3))),z4 rfl rfl,z8 hg7_7 rfl,zr' rfl (oF underlying43 rfl sz41),zr' rfl (oL underlying41 rfl),zr' rfl (op_len_fr _ _ _ underlying41 rfl (by decide) (gflat_len T_Item.ilen _)),zr' rfl (oB rfl rfl),z3 true rfl,z8 hg7_13 rfl,zt rfl,zt rfl,zt rfl,z3 false rfl,z1 rfl,zt rfl,zt rfl,zt rfl,z3 false rfl,z2 rfl,zz⟩ ?_
        exact hl1038 _ (zi h).symm
      ·refine zg hn (_::_::_::_::_::(33,.ptr 3 9)::(34,vi p_r.Id)::(35,.ptr 2 0)::(36,.fr .shr true 11 (flatten (map T_Item.ienc s.Items)))::(37,vi (s.Items.length : Int))::(38,vi v3)::(39,vb (p_r.Id == v3))::(40,vb false)::(41,.v undef)::(42,.v undef)::(43,.v undef)::(44,.v undef)::(45,vb false)::(46,vb false)::(47,.v undef)::(48,.v undef)::(49,.v undef)::(50,vb false)::(51,vb false)::(52,.v undef)::(53,.v undef)::(54,.v undef)::(55,vb false)::(8,vb false)::[]) [0,1,2,3,4] [1,2,3,4,28] (zq [1] 5 33::zq [5,1] 6 34::zq [0] 7 35::zq [7,0] 8 36::zq [8] 9 37::zq [9] 10 38::zq [6,10] 11 39::zq [11] 12 40::zq [12] 13 41::zq [12] 14 42::zq [12] 15 43::zq [12] 16 44::zq [12] 17 45::zq [17] 18 46::zq [18] 19 47::zq [18] 20 48::zq [18] 21 49::zq [18] 22 50::zq [22] 23 51::zq [23] 24 52::zq [23] 25 53::zq [23] 26 54::zq [23] 27 55::zq [27] 28 8::[]) [(_,_),(_,_),(_,_),(_,_),(_,_)] rfl ⟨zp rfl (oF underlying39 rfl sz3),zp rfl (oL underlying3 rfl),zp rfl (oF underlying43 rfl sz41),zp rfl (oL underlying41 rfl),zp rfl (op_len_fr _ _ _ underlying41 rfl (by decide) (gflat_len T_Item.ilen _)),zp rfl (oB rfl (ibind (f := int .i64) (Option.some.inj hv3))),z4 rfl rfl,z8 hg7_7 rfl,zt rfl,zt rfl,zt rfl,zt rfl,z3 false rfl,z1 rfl,zt rfl,zt rfl,zt rfl,z3 false rfl,z1 rfl,zt rfl,zt rfl,zt rfl,z3 false rfl,z2 rfl,zz⟩ ?_
       exact hl1038 _ (zi h).symm
    ·have h := cond_f hb1035 h
     refine zgg hn [_,_,_,_,_,_,_,_,(72,vb (p_r.Kind == 2)),(71,vb (p_r.Kind == 2))] [0,1,2,3,4,5,6,7] [0,1,2,3,4,5,6,9] [zq [6] 8 72,zq [8] 9 71] [(_,_),(_,_),(_,_),(_,_),(_,_),(_,_),(_,_),(_,_)] rfl ⟨z4 rfl rfl,z2 rfl,zz⟩ ?_
     refine ht_cond _ rfl (fun hb1046 => ?_) (fun hb1046 => ?_)
     ·have h := cond_t hb1046 h
      refine ht_seq ?_
      refine ht_anyR (by kernel_rfl) hn (El := (_ :: _ :: _ :: _ :: _ :: _ :: _ :: _ :: (73,.ptr 3 12) :: (74,vi p_r.Number) :: (75,.ptr 3 10) :: (76,fi p_r.Ids) :: (77,.ptr 7 12) :: (7,.box 39 [vi p_r.Kind,vb false,vs z0,vs z0,vz,vz,vb false,vs z0,vi 0,vi 0,vz,vi 0,vi p_r.Number,vi 0,vz]) :: (78,.ptr 7 10) :: (7,.box 39 [vi p_r.Kind,vb false,vs z0,vs z0,vz,vz,vb false,vs z0,vi 0,vi 0,fi p_r.Ids,vi 0,vi p_r.Number,vi 0,vz]) :: [])) (init := [0,1,2,3,4,5,6,7]) (fin := [0,1,2,3,15]) (sps := [zq [1] 8 73,zq [8,1] 9 74,zq [1] 10 75,zq [10,1] 11 76,zq [4] 12 77,⟨[12,9],[4],[13],[.cell 7 12]⟩,zq [13] 14 78,⟨[14,11],[13],[15],[.cell 7 10]⟩]) (es' := [(_,_),(_,_),(_,_),(_,_),(7,.box 39 [vi p_r.Kind,vb false,vs z0,vs z0,vz,vz,vb false,vs z0,vi 0,vi 0,fi p_r.Ids,vi 0,vi p_r.Number,vi 0,vz])]) (by kernel_rfl) rfl rfl ⟨zp rfl (oF underlying39 rfl sz3),zp rfl (oL underlying3 rfl),zp rfl (oF underlying39 rfl sz37),zp rfl (oL underlying37 rfl),zp rfl (oF underlying39 rfl sz3),zp rfl (oS sz3 rfl),zp rfl (oF underlying39 rfl sz37),zp rfl (oS sz37 rfl),zz⟩ ?_
      refine pt_then (ht_seq ?_)
      refine ht_joinS h (fun (s1047 : Bool) => [(2,.box 43 (T_Spool.c s [])),(3,.box 39 (T_Rec.c p_r [])),(4,.box 43 [vz,vi 0,vz,vz,vi 0,vz]),(6,.box 43 [.fr (.own 75) false 11 (flatten (map T_Item.ienc v1.Items)),vi v1.Packs,.fl (.own 3) 1 (map (int .i64) v1.Sent),.fl (.own 5) 1 (map (int .u8) v1.Part),vi v1.Of,.fl (.own 3) 1 (map (int .i64) v1.Done)]),(7,.box 39 [vi p_r.Kind,vb false,vs z0,vs z0,vz,vz,vb false,vs z0,vi 0,vi 0,fi p_r.Ids,vi 0,vi p_r.Number,vi 0,vz]),(8,vb s1047)]) ?_ ?_
      ·rintro s1047 h
       refine pt_then (ht_seq ?_)
       refine zgg hn [_,_,_,_,_,_,(10,vi 0)] [0,1,2,3,4,5] [0,1,2,3,4,5,6] [zq [] 6 10] [(_,_),(_,_),(_,_),(_,_),(_,_),(_,_),(_,_)] rfl ⟨z2 rfl,zz⟩ ?_
       refine ht_loopS h (fun ((s1094,s1095,s1096) : (List T_Item) × Bool × Int) => [(2,.box 43 (T_Spool.c s [])),(3,.box 39 (T_Rec.c p_r [])),(4,.box 43 [vz,vi 0,vz,vz,vi 0,vz]),(6,.box 43 [.fr (.own 75) false 11 (flatten (map T_Item.ienc s1094)),vi v1.Packs,.fl (.own 3) 1 (map (int .i64) v1.Sent),.fl (.own 5) 1 (map (int .u8) v1.Part),vi v1.Of,.fl (.own 3) 1 (map (int .i64) v1.Done)]),(7,.box 39 [vi p_r.Kind,vb false,vs z0,vs z0,vz,vz,vb false,vs z0,vi 0,vi 0,fi p_r.Ids,vi 0,vi p_r.Number,vi 0,vz]),(8,vb s1095),(10,vi s1096)]) (fun ((s1117,s1118) : (List T_Item) × Bool) => [(3,.box 39 (T_Rec.c p_r [])),(4,.box 43 [vz,vi 0,vz,vz,vi 0,vz]),(6,.box 43 [.fr (.own 75) false 11 (flatten (map T_Item.ienc s1117)),vi v1.Packs,.fl (.own 3) 1 (map (int .i64) v1.Sent),.fl (.own 5) 1 (map (int .u8) v1.Part),vi v1.Of,.fl (.own 3) 1 (map (int .i64) v1.Done)]),(7,.box 39 [vi p_r.Kind,vb false,vs z0,vs z0,vz,vz,vb false,vs z0,vi 0,vi 0,fi p_r.Ids,vi 0,vi p_r.Number,vi 0,vz]),(8,vb s1118)]) ?_ ?_
       ·rintro ⟨s1117, s1118⟩ h
        refine pt_then ?_
        refine zg hn [_,_,_,_,_,(165,.ptr 3 12),(166,vi p_r.Number),(167,.ptr 6 1),(6,.box 43 [.fr (.own 75) false 11 (flatten (map T_Item.ienc s1117)),vi p_r.Number,.fl (.own 3) 1 (map (int .i64) v1.Sent),.fl (.own 5) 1 (map (int .u8) v1.Part),vi v1.Of,.fl (.own 3) 1 (map (int .i64) v1.Done)])] [0,1,2,3,4] [0,1,8,3,4] [zq [0] 5 165,zq [5,0] 6 166,zq [2] 7 167,⟨[7,6],[2],[8],[.cell 6 1]⟩] [(_,_),(_,_),(_,_),(_,_),(_,_)] rfl ⟨zp rfl (oF underlying39 rfl sz3),zp rfl (oL underlying3 rfl),zp rfl (oF underlying43 rfl sz3),zp rfl (oS sz3 rfl),zz⟩ ?_
        refine pt_inb ?_
        refine pt_sub (fs := [(3,.box 39 (T_Rec.c p_r [])),(4,.box 43 [vz,vi 0,vz,vz,vi 0,vz]),(6,.box 43 [.fr (.own 75) false 11 (flatten (map T_Item.ienc s1117)),vi p_r.Number,.fl (.own 3) 1 (map (int .i64) v1.Sent),.fl (.own 5) 1 (map (int .u8) v1.Part),vi v1.Of,.fl (.own 3) 1 (map (int .i64) v1.Done)]),(7,.box 39 [vi p_r.Kind,vb false,vs z0,vs z0,.fl .shr 3 (flatten (map T_Path.enc [])),fb [],vb false,vs z0,vi 0,vi 0,fi p_r.Ids,vi 0,vi p_r.Number,vi 0,fb []]),(8,vb s1118)]) (.same _ (.same _ (.same _ (.box _ _ (subs_cons (sub_refl _) (subs_cons (sub_refl _) (subs_cons (sub_refl _) (subs_cons (sub_refl _) (subs_cons (sub_nil_shr 3) (subs_cons (sub_nil_shr 1) (subs_cons (sub_refl _) (subs_cons (sub_refl _) (subs_cons (sub_refl _) (subs_cons (sub_refl _) (subs_cons (sub_refl _) (subs_cons (sub_refl _) (subs_cons (sub_refl _) (subs_cons (sub_refl _) (subs_cons (sub_nil_shr 1) (subs_nil)))))))))))))))) rfl (.same _ .nil))))) ?_
        exact hl1033 _ (zi h).symm
       ·rintro u1119 hl1120 hr1121 ⟨s1094, s1095, s1096⟩ rr1124 h ho1122
        refine ht_seq ?_
        refine ht_seq ?_
        refine ht_joinS h (fun (s1125 : Bool) => [(2,.box 43 (T_Spool.c s [])),(3,.box 39 (T_Rec.c p_r [])),(4,.box 43 [vz,vi 0,vz,vz,vi 0,vz]),(6,.box 43 [.fr (.own 75) false 11 (flatten (map T_Item.ienc s1094)),vi v1.Packs,.fl (.own 3) 1 (map (int .i64) v1.Sent),.fl (.own 5) 1 (map (int .u8) v1.Part),vi v1.Of,.fl (.own 3) 1 (map (int .i64) v1.Done)]),(7,.box 39 [vi p_r.Kind,vb false,vs z0,vs z0,vz,vz,vb false,vs z0,vi 0,vi 0,fi p_r.Ids,vi 0,vi p_r.Number,vi 0,vz]),(8,vb s1095),(10,vi s1096),(98,vb s1125)]) ?_ ?_
        ·rintro s1125 h
         refine pt_then ?_
         refine ht_cond _ rfl (fun hb1129 => ?_) (fun hb1129 => ?_)
         ·have h := cond_t hb1129 h
          refine ht_skip ?_
          refine pt_then (ht_seq ?_)
          refine ht_joinS h (fun ((s1135,s1136) : (List T_Item) × Bool) => [(6,.box 43 [.fr (.own 75) false 11 (flatten (map T_Item.ienc s1135)),vi v1.Packs,.fl (.own 3) 1 (map (int .i64) v1.Sent),.fl (.own 5) 1 (map (int .u8) v1.Part),vi v1.Of,.fl (.own 3) 1 (map (int .i64) v1.Done)]),(2,.box 43 (T_Spool.c s [])),(3,.box 39 (T_Rec.c p_r [])),(4,.box 43 [vz,vi 0,vz,vz,vi 0,vz]),(7,.box 39 [vi p_r.Kind,vb false,vs z0,vs z0,vz,vz,vb false,vs z0,vi 0,vi 0,fi p_r.Ids,vi 0,vi p_r.Number,vi 0,vz]),(10,vi s1096),(8,vb s1136)]) ?_ ?_
          ·rintro ⟨s1135, s1136⟩ h
           refine pt_then ?_
           obtain ⟨v70, hv70, h⟩ := zn h
           refine zg hn [_,_,_,_,_,_,_,(99,vi s1096),(100,vi v70),(10,vi v70)] [0,1,2,3,4,5,6] [0,1,2,3,4,6,9] [zq [5] 7 99,zq [7] 8 100,⟨[8],[5],[9],[(.slot 10)]⟩] [(_,_),(_,_),(_,_),(_,_),(_,_),(_,_),(_,_)] rfl ⟨z1 rfl,zp rfl (oB rfl (ibind (f := int .i64) (Option.some.inj hv70))),zp rfl (LOp.drop [_] (op_assign _ _ _ _ rfl rfl)),zz⟩ ?_
           refine pt_pick [1,2,3,0,4,5,6] (by kernel_rfl) (es' := [(_,_),(_,_),(_,_),(_,_),(_,_),(_,_),(_,_)]) rfl ?_
           exact pt_next _ (zi h).symm rfl
          ·intro u1137 h hl1138 hr1139
           refine ht_block ?_
           refine ht_seq ?_
           refine ht_joinS h (fun (s1140 : Bool) => [(2,.box 43 (T_Spool.c s [])),(3,.box 39 (T_Rec.c p_r [])),(4,.box 43 [vz,vi 0,vz,vz,vi 0,vz]),(6,.box 43 [.fr (.own 75) false 11 (flatten (map T_Item.ienc s1094)),vi v1.Packs,.fl (.own 3) 1 (map (int .i64) v1.Sent),.fl (.own 5) 1 (map (int .u8) v1.Part),vi v1.Of,.fl (.own 3) 1 (map (int .i64) v1.Done)]),(7,.box 39 [vi p_r.Kind,vb false,vs z0,vs z0,vz,vz,vb false,vs z0,vi 0,vi 0,fi p_r.Ids,vi 0,vi p_r.Number,vi 0,vz]),(10,vi s1096),(8,vb s1140)]) ?_ ?_
           ·rintro s1140 h
            refine pt_then ?_
            refine zgg hn [_,_,_,_,_,_,_,(142,vb s1140)] [0,1,2,3,4,5,6] [0,1,2,3,4,5,6,7] [zq [6] 7 142] [(_,_),(_,_),(_,_),(_,_),(_,_),(_,_),(_,_),(_,_)] rfl ⟨z1 rfl,zz⟩ ?_
            refine ht_cond _ rfl (fun hb1144 => ?_) (fun hb1144 => ?_)
            ·have h := cond_t hb1144 h
             obtain ⟨v48, hv48, h⟩ := zn h
             obtain ⟨v49, hv49, h⟩ := zn h
             obtain ⟨v50, hv50, h⟩ := zn h
             obtain ⟨v51, hv51, h⟩ := zn h
             obtain ⟨v52, hv52, h⟩ := zn h
             obtain ⟨v53, hv53, h⟩ := zn h
             obtain ⟨v54, hv54, h⟩ := zn h
             obtain ⟨v55, hv55, h⟩ := zn h
             obtain ⟨v56, hv56, h⟩ := zn h
             obtain ⟨v57, hv57, h⟩ := zn h
             obtain ⟨v58, hv58, h⟩ := zn h
             obtain ⟨v59, hv59, h⟩ := zn h
             refine ht_pick [3,0,1,2,4,5,6,7] rfl rfl ?_
             refine ht_open 405 0 (fun rb20 rn20 rc20 => [.v (.slice (some ⟨rb20, 0, none⟩) rn20 rc20), .v (.int .i64 v1.Packs), .fl (.own 3) 1 (map (int .i64) v1.Sent), .fl (.own 5) 1 (map (int .u8) v1.Part), .v (.int .i64 v1.Of), .fl (.own 3) 1 (map (int .i64) v1.Done)]) (zl rfl) rfl (fun _ _ _ => rfl) (ics_pos T_Item.ilen (by decide) hv55) fun rb20 rn20 rc20 rl20 => ?_
             refine ht_anyR (by kernel_rfl) hn (El := (_ :: _ :: _ :: _ :: _ :: _ :: _ :: _ :: _ :: (143,.ptr 6 0) :: (144,.v (.slice (some ⟨rb20,0,none⟩) rn20 rc20)) :: (145,.ptr 3 10) :: (146,fi p_r.Ids) :: (147,vi s1096) :: (148,.eref (.slot 146) (v48 * 1)) :: (149,vi v49) :: (150,vi v50) :: (151,.ptr 6 0) :: (152,.v (.slice (some ⟨rb20,0,none⟩) rn20 rc20)) :: (153,.ptr 3 10) :: (154,fi p_r.Ids) :: (155,vi s1096) :: (156,.eref (.slot 154) (v51 * 1)) :: (157,vi v52) :: (158,vi v53) :: (159,.ptr 3 12) :: (160,vi p_r.Number) :: (161,.v (.pointer (some ⟨rb20,(v54 * 11),none⟩))) :: (162,.v (.pointer (some ⟨rb20,(v54 * 11 + 9),none⟩))) :: (405,.inv (rowJ 75 false 11 (flatten (map T_Item.ienc v56)) rb20 rn20 rc20)) :: (163,.v (.pointer (some ⟨rb20,(v57 * 11),none⟩))) :: (164,.v (.pointer (some ⟨rb20,(v57 * 11 + 10),none⟩))) :: (405,.inv (rowJ 75 false 11 (flatten (map T_Item.ienc v59)) rb20 rn20 rc20)) :: [])) (init := [0,1,2,3,4,5,6,7,8]) (fin := [0,32,2,3,4,5,6,7]) (sps := (zq [0] 9 143 :: zq [9,0] 10 144 :: zq [3] 11 145 :: zq [11,3] 12 146 :: zq [6] 13 147 :: zq [12,13] 14 148 :: zq [14,12] 15 149 :: zq [15] 16 150 :: zq [0] 17 151 :: zq [17,0] 18 152 :: zq [3] 19 153 :: zq [19,3] 20 154 :: zq [6] 21 155 :: zq [20,21] 22 156 :: zq [22,20] 23 157 :: zq [23] 24 158 :: zq [3] 25 159 :: zq [25,3] 26 160 :: zq [10,16] 27 161 :: zq [27] 28 162 :: ⟨[28],[1],[29],[]⟩ :: zq [18,24] 30 163 :: zq [30] 31 164 :: ⟨[31,26],[29],[32],[]⟩ :: [])) (es' := [(_,_),(405,.inv (rowJ 75 false 11 (flatten (map T_Item.ienc v59)) rb20 rn20 rc20)),(_,_),(_,_),(_,_),(_,_),(_,_),(_,_)]) (by kernel_rfl) rfl rfl ⟨zp rfl (oF underlying43 rfl sz41),zp rfl (oL underlying41 rfl),zp rfl (oF underlying39 rfl sz37),zp rfl (oL underlying37 rfl),z1 rfl,zp rfl (op_ix _ _ _ _ _ _ _ _ underlying37 sz3 (by decide) rfl rfl rfl (ix_ok hv48).1 (map_lt (ix_ok hv48).2) rfl),zp rfl (op_load_e _ _ _ _ _ _ underlying3 rfl rfl rfl (map_get hv49)),zp rfl (oB rfl (ibind (f := int .i64) (Option.some.inj hv50))),zp rfl (oF underlying43 rfl sz41),zp rfl (oL underlying41 rfl),zp rfl (oF underlying39 rfl sz37),zp rfl (oL underlying37 rfl),z1 rfl,zp rfl (op_ix _ _ _ _ _ _ _ _ underlying37 sz3 (by decide) rfl rfl rfl (ix_ok hv51).1 (map_lt (ix_ok hv51).2) rfl),zp rfl (op_load_e _ _ _ _ _ _ underlying3 rfl rfl rfl (map_get hv52)),zp rfl (oB rfl (ibind (f := int .i64) (Option.some.inj hv53))),zp rfl (oF underlying39 rfl sz3),zp rfl (oL underlying3 rfl),zp rfl (op_ix_val _ _ _ _ _ rb20 rn20 rc20 _ _ underlying41 sz75 rfl rfl (ix_ok hv54).1 (ics_lt rl20 (gflat_len T_Item.ilen _) (by decide) (ix_ok hv54).2)),zp rfl (op_fieldAddr_v _ _ _ _ rb20 (v54 * 11) _ underlying75 rfl sz3 rfl rfl),zp rfl (op_store_row _ _ _ 405 rb20 rn20 rc20 _ 1 _ sz3 rfl rfl rfl (by decide) (gflat_fit (q := 9) (s := 1) T_Item.ilen hv55 (by decide)) ((gflat_setc (q := 9) (s := 1) (y := (T_Item.mk v55.Id ((T_Mail.mk (T_Path.mk v55.Mail.From.Null v55.Mail.From.Local v55.Mail.From.Domain) v55.Mail.To v55.Mail.Body v55.Mail.Quiet v55.Mail.Helo v55.Mail.At)) 2 v55.Pack)) T_Item.ilen hv55 rfl (by decide)).trans (congrArg (fun l => flatten (map T_Item.ienc l)) (Option.some.inj hv56)))),zp rfl (op_ix_val _ _ _ _ _ rb20 rn20 rc20 _ _ underlying41 sz75 rfl rfl (ix_ok hv57).1 (ics_lt rl20 (gflat_len T_Item.ilen _) (by decide) (ix_ok hv57).2)),zp rfl (op_fieldAddr_v _ _ _ _ rb20 (v57 * 11) _ underlying75 rfl sz3 rfl rfl),zp rfl (op_store_row _ _ _ 405 rb20 rn20 rc20 _ 1 _ sz3 rfl rfl rfl (by decide) (gflat_fit (q := 10) (s := 1) T_Item.ilen hv58 (by decide)) ((gflat_setc (q := 10) (s := 1) (y := (T_Item.mk v58.Id ((T_Mail.mk (T_Path.mk v58.Mail.From.Null v58.Mail.From.Local v58.Mail.From.Domain) v58.Mail.To v58.Mail.Body v58.Mail.Quiet v58.Mail.Helo v58.Mail.At)) v58.State p_r.Number)) T_Item.ilen hv58 rfl (by decide)).trans (congrArg (fun l => flatten (map T_Item.ienc l)) (Option.some.inj hv59)))),zz⟩ ?_
             refine pt_close 0 [.fr (.own 75) false 11 (flatten (map T_Item.ienc v59)), .v (.int .i64 v1.Packs), .fl (.own 3) 1 (map (int .i64) v1.Sent), .fl (.own 5) 1 (map (int .u8) v1.Part), .v (.int .i64 v1.Of), .fl (.own 3) 1 (map (int .i64) v1.Done)] (zl rfl) rfl rfl ?_
             refine pt_inb ?_
             exact hl1138 _ (zi h).symm
            ·have h := cond_f hb1144 h
             refine ht_skip ?_
             refine pt_inb ?_
             refine pt_pick [3,0,1,2,4,5,6] (by kernel_rfl) (es' := [(_,_),(_,_),(_,_),(_,_),(_,_),(_,_),(_,_)]) rfl ?_
             exact hl1138 _ (zi h).symm
           ·intro u1141 h hl1142 hr1143
            obtain ⟨v30, hv30, h⟩ := zn h
            obtain ⟨v31, hv31, h⟩ := zn h
            obtain ⟨v32, hv32, h⟩ := zn h
            refine cond_some h (fun hg18_9 h => ?_) (fun hg18_9 h => ?_)
            ·obtain ⟨v33, hv33, h⟩ := zn h
             obtain ⟨v34, hv34, h⟩ := zn h
             obtain ⟨v35, hv35, h⟩ := zn h
             obtain ⟨v36, hv36, h⟩ := zn h
             obtain ⟨v37, hv37, h⟩ := zn h
             refine cond_some h (fun hg18_23 h => ?_) (fun hg18_23 h => ?_)
             ·refine cond_some h (fun hg18_26 h => ?_) (fun hg18_26 h => ?_)
              ·refine ht_anyR (by kernel_rfl) hn (El := (_ :: _ :: _ :: _ :: _ :: _ :: _ :: _ :: (101,.ptr 3 10) :: (102,fi p_r.Ids) :: (103,vi s1096) :: (104,.eref (.slot 102) (v30 * 1)) :: (105,vi v31) :: (106,.ptr 2 0) :: (107,.fr .shr true 11 (flatten (map T_Item.ienc s.Items))) :: (108,vi (s.Items.length : Int)) :: (109,vb v32) :: (110,vb true) :: (111,.ptr 2 0) :: (112,.fr .shr true 11 (flatten (map T_Item.ienc s.Items))) :: (113,.ptr 3 10) :: (114,fi p_r.Ids) :: (115,vi s1096) :: (116,.eref (.slot 114) (v33 * 1)) :: (117,vi v34) :: (118,vi v35) :: (119,.eref (.slot 112) (v36 * 11)) :: (120,.eref (.slot 112) (v36 * 11 + 9)) :: (121,vi v37.State) :: (122,vb (v37.State == 1)) :: (123,vb (v37.State == 1)) :: (124,vb true) :: (125,vi s1096) :: (126,vb (s1096 == 0)) :: (127,vb true) :: (128,.v undef) :: (129,.v undef) :: (130,.v undef) :: (131,.v undef) :: (132,.v undef) :: (133,.v undef) :: (134,.v undef) :: (135,.v undef) :: (136,.v undef) :: (137,.v undef) :: (138,.v undef) :: (139,.v undef) :: (140,vb true) :: (141,vb true) :: (8,vb true) :: [])) (init := [0,1,2,3,4,5,6,7]) (fin := [0,1,2,3,4,6,49]) (sps := (zq [1] 8 101 :: zq [8,1] 9 102 :: zq [6] 10 103 :: zq [9,10] 11 104 :: zq [11,9] 12 105 :: zq [0] 13 106 :: zq [13,0] 14 107 :: zq [14] 15 108 :: zq [12,15] 16 109 :: zq [16] 17 110 :: zq [17,0] 18 111 :: zq [17,18,0] 19 112 :: zq [17,1] 20 113 :: zq [17,20,1] 21 114 :: zq [17,6] 22 115 :: zq [17,21,22] 23 116 :: zq [17,23,21] 24 117 :: zq [17,24] 25 118 :: zq [17,19,25] 26 119 :: zq [17,26,19] 27 120 :: zq [17,27,19] 28 121 :: zq [17,28] 29 122 :: zq [17,29] 30 123 :: zq [30] 31 124 :: zq [31,6] 32 125 :: zq [31,32] 33 126 :: zq [31,33] 34 127 :: zq [34] 35 128 :: zq [34] 36 129 :: zq [34] 37 130 :: zq [34] 38 131 :: zq [34] 39 132 :: zq [34] 40 133 :: zq [34] 41 134 :: zq [34] 42 135 :: zq [34] 43 136 :: zq [34] 44 137 :: zq [34] 45 138 :: zq [34] 46 139 :: zq [31,34] 47 140 :: zq [31,47] 48 141 :: ⟨[48],[5],[49],[(.slot 8)]⟩ :: [])) (es' := [(_,_),(_,_),(_,_),(_,_),(_,_),(_,_),(8,vb true)]) (by kernel_rfl) rfl rfl ⟨zp rfl (oF underlying39 rfl sz37),zp rfl (oL underlying37 rfl),z1 rfl,zp rfl (op_ix _ _ _ _ _ _ _ _ underlying37 sz3 (by decide) rfl rfl rfl (ix_ok hv30).1 (map_lt (ix_ok hv30).2) rfl),zp rfl (op_load_e _ _ _ _ _ _ underlying3 rfl rfl rfl (map_get hv31)),zp rfl (oF underlying43 rfl sz41),zp rfl (oL underlying41 rfl),zp rfl (op_len_fr _ _ _ underlying41 rfl (by decide) (gflat_len T_Item.ilen _)),zp rfl (op_call _ _ 30 _ _ rfl call30 rfl (ok_wherryref18_in v31 1 (s.Items.length : Int) _ hv32) rfl rfl),z8 hg18_9 rfl,zr' rfl (oF underlying43 rfl sz41),zr' rfl (oL underlying41 rfl),zr' rfl (oF underlying39 rfl sz37),zr' rfl (oL underlying37 rfl),zr' rfl (oM rfl),zr' rfl (op_ix _ _ _ _ _ _ _ _ underlying37 sz3 (by decide) rfl rfl rfl (ix_ok hv33).1 (map_lt (ix_ok hv33).2) rfl),zr' rfl (op_load_e _ _ _ _ _ _ underlying3 rfl rfl rfl (map_get hv34)),zr' rfl (oB rfl (ibind (f := int .i64) (Option.some.inj hv35))),zr' rfl (op_ix_fr _ _ _ _ _ _ _ _ underlying41 sz75 (by decide) rfl rfl rfl (ix_ok hv36).1 (gflat_lt T_Item.ilen (ix_ok hv36).2) rfl),zr' rfl (op_fieldAddr_e _ _ _ _ _ _ _ underlying75 rfl sz3 rfl rfl rfl),zr' rfl (op_load_fr _ _ _ _ _ _ _ underlying3 rfl rfl rfl (gflat_cell T_Item.ilen hv37 rfl) (.v _)),zr' rfl (oB rfl rfl),z3 true rfl,z8 hg18_23 rfl,zr' rfl (oM rfl),zr' rfl (oB rfl rfl),zr' rfl (op_move _ _ _ _ (zb hg18_26) rfl),zf rfl,zf rfl,zf rfl,zf rfl,zf rfl,zf rfl,zf rfl,zf rfl,zf rfl,zf rfl,zf rfl,zf rfl,zr' rfl (op_pick _ _ true _ rfl rfl),z3 true rfl,zp rfl (LOp.drop [_] (op_assign _ _ _ _ rfl rfl)),zz⟩ ?_
               exact hl1142 _ (zi h).symm
              ·obtain ⟨v38, hv38, h⟩ := zn h
               obtain ⟨v39, hv39, h⟩ := zn h
               obtain ⟨v40, hv40, h⟩ := zn h
               obtain ⟨v41, hv41, h⟩ := zn h
               obtain ⟨v42, hv42, h⟩ := zn h
               refine ht_anyR (by kernel_rfl) hn (El := (_ :: _ :: _ :: _ :: _ :: _ :: _ :: _ :: (101,.ptr 3 10) :: (102,fi p_r.Ids) :: (103,vi s1096) :: (104,.eref (.slot 102) (v30 * 1)) :: (105,vi v31) :: (106,.ptr 2 0) :: (107,.fr .shr true 11 (flatten (map T_Item.ienc s.Items))) :: (108,vi (s.Items.length : Int)) :: (109,vb v32) :: (110,vb true) :: (111,.ptr 2 0) :: (112,.fr .shr true 11 (flatten (map T_Item.ienc s.Items))) :: (113,.ptr 3 10) :: (114,fi p_r.Ids) :: (115,vi s1096) :: (116,.eref (.slot 114) (v33 * 1)) :: (117,vi v34) :: (118,vi v35) :: (119,.eref (.slot 112) (v36 * 11)) :: (120,.eref (.slot 112) (v36 * 11 + 9)) :: (121,vi v37.State) :: (122,vb (v37.State == 1)) :: (123,vb (v37.State == 1)) :: (124,vb true) :: (125,vi s1096) :: (126,vb (s1096 == 0)) :: (127,vb false) :: (128,.ptr 3 10) :: (129,fi p_r.Ids) :: (130,vi s1096) :: (131,.eref (.slot 129) (v38 * 1)) :: (132,vi v39) :: (133,.ptr 3 10) :: (134,fi p_r.Ids) :: (135,vi s1096) :: (136,vi v40) :: (137,.eref (.slot 134) (v41 * 1)) :: (138,vi v42) :: (139,vb (decide (v42 < v39))) :: (140,vb (decide (v42 < v39))) :: (141,vb (decide (v42 < v39))) :: (8,vb (decide (v42 < v39))) :: [])) (init := [0,1,2,3,4,5,6,7]) (fin := [0,1,2,3,4,6,49]) (sps := (zq [1] 8 101 :: zq [8,1] 9 102 :: zq [6] 10 103 :: zq [9,10] 11 104 :: zq [11,9] 12 105 :: zq [0] 13 106 :: zq [13,0] 14 107 :: zq [14] 15 108 :: zq [12,15] 16 109 :: zq [16] 17 110 :: zq [17,0] 18 111 :: zq [17,18,0] 19 112 :: zq [17,1] 20 113 :: zq [17,20,1] 21 114 :: zq [17,6] 22 115 :: zq [17,21,22] 23 116 :: zq [17,23,21] 24 117 :: zq [17,24] 25 118 :: zq [17,19,25] 26 119 :: zq [17,26,19] 27 120 :: zq [17,27,19] 28 121 :: zq [17,28] 29 122 :: zq [17,29] 30 123 :: zq [30] 31 124 :: zq [31,6] 32 125 :: zq [31,32] 33 126 :: zq [31,33] 34 127 :: zq [34,1] 35 128 :: zq [34,35,1] 36 129 :: zq [34,6] 37 130 :: zq [34,36,37] 38 131 :: zq [34,38,36] 39 132 :: zq [34,1] 40 133 :: zq [34,40,1] 41 134 :: zq [34,6] 42 135 :: zq [34,42] 43 136 :: zq [34,41,43] 44 137 :: zq [34,44,41] 45 138 :: zq [34,39,45] 46 139 :: zq [31,34,46] 47 140 :: zq [31,47] 48 141 :: ⟨[48],[5],[49],[(.slot 8)]⟩ :: [])) (es' := [(_,_),(_,_),(_,_),(_,_),(_,_),(_,_),(8,vb (decide (v42 < v39)))]) (by kernel_rfl) rfl rfl ⟨zp rfl (oF underlying39 rfl sz37),zp rfl (oL underlying37 rfl),z1 rfl,zp rfl (op_ix _ _ _ _ _ _ _ _ underlying37 sz3 (by decide) rfl rfl rfl (ix_ok hv30).1 (map_lt (ix_ok hv30).2) rfl),zp rfl (op_load_e _ _ _ _ _ _ underlying3 rfl rfl rfl (map_get hv31)),zp rfl (oF underlying43 rfl sz41),zp rfl (oL underlying41 rfl),zp rfl (op_len_fr _ _ _ underlying41 rfl (by decide) (gflat_len T_Item.ilen _)),zp rfl (op_call _ _ 30 _ _ rfl call30 rfl (ok_wherryref18_in v31 1 (s.Items.length : Int) _ hv32) rfl rfl),z8 hg18_9 rfl,zr' rfl (oF underlying43 rfl sz41),zr' rfl (oL underlying41 rfl),zr' rfl (oF underlying39 rfl sz37),zr' rfl (oL underlying37 rfl),zr' rfl (oM rfl),zr' rfl (op_ix _ _ _ _ _ _ _ _ underlying37 sz3 (by decide) rfl rfl rfl (ix_ok hv33).1 (map_lt (ix_ok hv33).2) rfl),zr' rfl (op_load_e _ _ _ _ _ _ underlying3 rfl rfl rfl (map_get hv34)),zr' rfl (oB rfl (ibind (f := int .i64) (Option.some.inj hv35))),zr' rfl (op_ix_fr _ _ _ _ _ _ _ _ underlying41 sz75 (by decide) rfl rfl rfl (ix_ok hv36).1 (gflat_lt T_Item.ilen (ix_ok hv36).2) rfl),zr' rfl (op_fieldAddr_e _ _ _ _ _ _ _ underlying75 rfl sz3 rfl rfl rfl),zr' rfl (op_load_fr _ _ _ _ _ _ _ underlying3 rfl rfl rfl (gflat_cell T_Item.ilen hv37 rfl) (.v _)),zr' rfl (oB rfl rfl),z3 true rfl,z8 hg18_23 rfl,zr' rfl (oM rfl),zr' rfl (oB rfl rfl),zr' rfl (op_move _ _ _ _ (zb hg18_26) rfl),zr' rfl (oF underlying39 rfl sz37),zr' rfl (oL underlying37 rfl),zr' rfl (oM rfl),zr' rfl (op_ix _ _ _ _ _ _ _ _ underlying37 sz3 (by decide) rfl rfl rfl (ix_ok hv38).1 (map_lt (ix_ok hv38).2) rfl),zr' rfl (op_load_e _ _ _ _ _ _ underlying3 rfl rfl rfl (map_get hv39)),zr' rfl (oF underlying39 rfl sz37),zr' rfl (oL underlying37 rfl),zr' rfl (oM rfl),zr' rfl (oB rfl (ibind (f := int .i64) (Option.some.inj hv40))),zr' rfl (op_ix _ _ _ _ _ _ _ _ underlying37 sz3 (by decide) rfl rfl rfl (ix_ok hv41).1 (map_lt (ix_ok hv41).2) rfl),zr' rfl (op_load_e _ _ _ _ _ _ underlying3 rfl rfl rfl (map_get hv42)),zr' rfl (oB rfl rfl),zr' rfl (op_pick _ _ false _ rfl rfl),z3 true rfl,zp rfl (LOp.drop [_] (op_assign _ _ _ _ rfl rfl)),zz⟩ ?_
               exact hl1142 _ (zi h).symm
             ·refine ht_anyR (by kernel_rfl) hn (El := (_ :: _ :: _ :: _ :: _ :: _ :: _ :: _ :: (101,.ptr 3 10) :: (102,fi p_r.Ids) :: (103,vi s1096) :: (104,.eref (.slot 102) (v30 * 1)) :: (105,vi v31) :: (106,.ptr 2 0) :: (107,.fr .shr true 11 (flatten (map T_Item.ienc s.Items))) :: (108,vi (s.Items.length : Int)) :: (109,vb v32) :: (110,vb true) :: (111,.ptr 2 0) :: (112,.fr .shr true 11 (flatten (map T_Item.ienc s.Items))) :: (113,.ptr 3 10) :: (114,fi p_r.Ids) :: (115,vi s1096) :: (116,.eref (.slot 114) (v33 * 1)) :: (117,vi v34) :: (118,vi v35) :: (119,.eref (.slot 112) (v36 * 11)) :: (120,.eref (.slot 112) (v36 * 11 + 9)) :: (121,vi v37.State) :: (122,vb (v37.State == 1)) :: (123,vb (v37.State == 1)) :: (124,vb false) :: (125,.v undef) :: (126,.v undef) :: (127,.v undef) :: (128,.v undef) :: (129,.v undef) :: (130,.v undef) :: (131,.v undef) :: (132,.v undef) :: (133,.v undef) :: (134,.v undef) :: (135,.v undef) :: (136,.v undef) :: (137,.v undef) :: (138,.v undef) :: (139,.v undef) :: (140,.v undef) :: (141,vb false) :: (8,vb false) :: [])) (init := [0,1,2,3,4,5,6,7]) (fin := [0,1,2,3,4,6,49]) (sps := (zq [1] 8 101 :: zq [8,1] 9 102 :: zq [6] 10 103 :: zq [9,10] 11 104 :: zq [11,9] 12 105 :: zq [0] 13 106 :: zq [13,0] 14 107 :: zq [14] 15 108 :: zq [12,15] 16 109 :: zq [16] 17 110 :: zq [17,0] 18 111 :: zq [17,18,0] 19 112 :: zq [17,1] 20 113 :: zq [17,20,1] 21 114 :: zq [17,6] 22 115 :: zq [17,21,22] 23 116 :: zq [17,23,21] 24 117 :: zq [17,24] 25 118 :: zq [17,19,25] 26 119 :: zq [17,26,19] 27 120 :: zq [17,27,19] 28 121 :: zq [17,28] 29 122 :: zq [17,29] 30 123 :: zq [30] 31 124 :: zq [31] 32 125 :: zq [31] 33 126 :: zq [31] 34 127 :: zq [34] 35 128 :: zq [34] 36 129 :: zq [34] 37 130 :: zq [34] 38 131 :: zq [34] 39 132 :: zq [34] 40 133 :: zq [34] 41 134 :: zq [34] 42 135 :: zq [34] 43 136 :: zq [34] 44 137 :: zq [34] 45 138 :: zq [34] 46 139 :: zq [31] 47 140 :: zq [31] 48 141 :: ⟨[48],[5],[49],[(.slot 8)]⟩ :: [])) (es' := [(_,_),(_,_),(_,_),(_,_),(_,_),(_,_),(8,vb false)]) (by kernel_rfl) rfl rfl ⟨zp rfl (oF underlying39 rfl sz37),zp rfl (oL underlying37 rfl),z1 rfl,zp rfl (op_ix _ _ _ _ _ _ _ _ underlying37 sz3 (by decide) rfl rfl rfl (ix_ok hv30).1 (map_lt (ix_ok hv30).2) rfl),zp rfl (op_load_e _ _ _ _ _ _ underlying3 rfl rfl rfl (map_get hv31)),zp rfl (oF underlying43 rfl sz41),zp rfl (oL underlying41 rfl),zp rfl (op_len_fr _ _ _ underlying41 rfl (by decide) (gflat_len T_Item.ilen _)),zp rfl (op_call _ _ 30 _ _ rfl call30 rfl (ok_wherryref18_in v31 1 (s.Items.length : Int) _ hv32) rfl rfl),z8 hg18_9 rfl,zr' rfl (oF underlying43 rfl sz41),zr' rfl (oL underlying41 rfl),zr' rfl (oF underlying39 rfl sz37),zr' rfl (oL underlying37 rfl),zr' rfl (oM rfl),zr' rfl (op_ix _ _ _ _ _ _ _ _ underlying37 sz3 (by decide) rfl rfl rfl (ix_ok hv33).1 (map_lt (ix_ok hv33).2) rfl),zr' rfl (op_load_e _ _ _ _ _ _ underlying3 rfl rfl rfl (map_get hv34)),zr' rfl (oB rfl (ibind (f := int .i64) (Option.some.inj hv35))),zr' rfl (op_ix_fr _ _ _ _ _ _ _ _ underlying41 sz75 (by decide) rfl rfl rfl (ix_ok hv36).1 (gflat_lt T_Item.ilen (ix_ok hv36).2) rfl),zr' rfl (op_fieldAddr_e _ _ _ _ _ _ _ underlying75 rfl sz3 rfl rfl rfl),zr' rfl (op_load_fr _ _ _ _ _ _ _ underlying3 rfl rfl rfl (gflat_cell T_Item.ilen hv37 rfl) (.v _)),zr' rfl (oB rfl rfl),z3 true rfl,z8 hg18_23 rfl,zt rfl,zt rfl,zt rfl,zu' rfl,zu' rfl,zu' rfl,zu' rfl,zu' rfl,zu' rfl,zu' rfl,zu' rfl,zu' rfl,zu' rfl,zu' rfl,zu' rfl,zt rfl,z3 false rfl,zp rfl (LOp.drop [_] (op_assign _ _ _ _ rfl rfl)),zz⟩ ?_
              exact hl1142 _ (zi h).symm
            ·refine ht_anyR (by kernel_rfl) hn (El := (_ :: _ :: _ :: _ :: _ :: _ :: _ :: _ :: (101,.ptr 3 10) :: (102,fi p_r.Ids) :: (103,vi s1096) :: (104,.eref (.slot 102) (v30 * 1)) :: (105,vi v31) :: (106,.ptr 2 0) :: (107,.fr .shr true 11 (flatten (map T_Item.ienc s.Items))) :: (108,vi (s.Items.length : Int)) :: (109,vb v32) :: (110,vb false) :: (111,.v undef) :: (112,.v undef) :: (113,.v undef) :: (114,.v undef) :: (115,.v undef) :: (116,.v undef) :: (117,.v undef) :: (118,.v undef) :: (119,.v undef) :: (120,.v undef) :: (121,.v undef) :: (122,.v undef) :: (123,vb false) :: (124,vb false) :: (125,.v undef) :: (126,.v undef) :: (127,.v undef) :: (128,.v undef) :: (129,.v undef) :: (130,.v undef) :: (131,.v undef) :: (132,.v undef) :: (133,.v undef) :: (134,.v undef) :: (135,.v undef) :: (136,.v undef) :: (137,.v undef) :: (138,.v undef) :: (139,.v undef) :: (140,.v undef) :: (141,vb false) :: (8,vb false) :: [])) (init := [0,1,2,3,4,5,6,7]) (fin := [0,1,2,3,4,6,49]) (sps := (zq [1] 8 101 :: zq [8,1] 9 102 :: zq [6] 10 103 :: zq [9,10] 11 104 :: zq [11,9] 12 105 :: zq [0] 13 106 :: zq [13,0] 14 107 :: zq [14] 15 108 :: zq [12,15] 16 109 :: zq [16] 17 110 :: zq [17] 18 111 :: zq [17] 19 112 :: zq [17] 20 113 :: zq [17] 21 114 :: zq [17] 22 115 :: zq [17] 23 116 :: zq [17] 24 117 :: zq [17] 25 118 :: zq [17] 26 119 :: zq [17] 27 120 :: zq [17] 28 121 :: zq [17] 29 122 :: zq [17] 30 123 :: zq [30] 31 124 :: zq [31] 32 125 :: zq [31] 33 126 :: zq [31] 34 127 :: zq [34] 35 128 :: zq [34] 36 129 :: zq [34] 37 130 :: zq [34] 38 131 :: zq [34] 39 132 :: zq [34] 40 133 :: zq [34] 41 134 :: zq [34] 42 135 :: zq [34] 43 136 :: zq [34] 44 137 :: zq [34] 45 138 :: zq [34] 46 139 :: zq [31] 47 140 :: zq [31] 48 141 :: ⟨[48],[5],[49],[(.slot 8)]⟩ :: [])) (es' := [(_,_),(_,_),(_,_),(_,_),(_,_),(_,_),(8,vb false)]) (by kernel_rfl) rfl rfl ⟨zp rfl (oF underlying39 rfl sz37),zp rfl (oL underlying37 rfl),z1 rfl,zp rfl (op_ix _ _ _ _ _ _ _ _ underlying37 sz3 (by decide) rfl rfl rfl (ix_ok hv30).1 (map_lt (ix_ok hv30).2) rfl),zp rfl (op_load_e _ _ _ _ _ _ underlying3 rfl rfl rfl (map_get hv31)),zp rfl (oF underlying43 rfl sz41),zp rfl (oL underlying41 rfl),zp rfl (op_len_fr _ _ _ underlying41 rfl (by decide) (gflat_len T_Item.ilen _)),zp rfl (op_call _ _ 30 _ _ rfl call30 rfl (ok_wherryref18_in v31 1 (s.Items.length : Int) _ hv32) rfl rfl),z8 hg18_9 rfl,zt rfl,zt rfl,zt rfl,zt rfl,zt rfl,zt rfl,zt rfl,zt rfl,zt rfl,zt rfl,zt rfl,zt rfl,z3 false rfl,z1 rfl,zt rfl,zt rfl,zt rfl,zu' rfl,zu' rfl,zu' rfl,zu' rfl,zu' rfl,zu' rfl,zu' rfl,zu' rfl,zu' rfl,zu' rfl,zu' rfl,zu' rfl,zt rfl,z3 false rfl,zp rfl (LOp.drop [_] (op_assign _ _ _ _ rfl rfl)),zz⟩ ?_
             exact hl1142 _ (zi h).symm
         ·have h := cond_f hb1129 h
          refine ht_exit ?_
          refine pt_x_then ?_
          refine pt_x_then ?_
          refine pt_x_in ?_
          refine pt_pick [1,2,3,4,5] (by kernel_rfl) (es' := [(_,_),(_,_),(_,_),(_,_),(_,_)]) rfl ?_
          exact hl1120 _ (ho1122 _ (zi h).symm).symm
        ·intro u1126 h hl1127 hr1128
         refine cond_some h (fun hg16_5 h => ?_) (fun hg16_5 h => ?_)
         ·refine zg hn (_::_::_::_::_::_::_::(91,vi s1096)::(92,.ptr 3 10)::(93,fi p_r.Ids)::(94,vi (p_r.Ids.length : Int))::(95,vb (decide (s1096 < (p_r.Ids.length : Int))))::(96,vb true)::(97,vb s1095)::(98,vb s1095)::[]) [0,1,2,3,4,5,6] [0,1,2,3,4,5,6,14] [zq [6] 7 91,zq [1] 8 92,zq [8,1] 9 93,zq [9] 10 94,zq [7,10] 11 95,zq [11] 12 96,zq [12,5] 13 97,zq [12,13] 14 98] [(_,_),(_,_),(_,_),(_,_),(_,_),(_,_),(_,_),(_,_)] rfl ⟨z1 rfl,zp rfl (oF underlying39 rfl sz37),zp rfl (oL underlying37 rfl),zp rfl (op_len_fl _ _ _ underlying37 rfl (by decide) (map_len _)),z4 rfl rfl,z8 hg16_5 rfl,zr' rfl (oM rfl),z3 true rfl,zz⟩ ?_
          exact hl1127 _ (zi h).symm
         ·refine zg hn (_::_::_::_::_::_::_::(91,vi s1096)::(92,.ptr 3 10)::(93,fi p_r.Ids)::(94,vi (p_r.Ids.length : Int))::(95,vb (decide (s1096 < (p_r.Ids.length : Int))))::(96,vb false)::(97,.v undef)::(98,vb false)::[]) [0,1,2,3,4,5,6] [0,1,2,3,4,5,6,14] [zq [6] 7 91,zq [1] 8 92,zq [8,1] 9 93,zq [9] 10 94,zq [7,10] 11 95,zq [11] 12 96,zq [12] 13 97,zq [12] 14 98] [(_,_),(_,_),(_,_),(_,_),(_,_),(_,_),(_,_),(_,_)] rfl ⟨z1 rfl,zp rfl (oF underlying39 rfl sz37),zp rfl (oL underlying37 rfl),zp rfl (op_len_fl _ _ _ underlying37 rfl (by decide) (map_len _)),z4 rfl rfl,z8 hg16_5 rfl,zt rfl,z3 false rfl,zz⟩ ?_
          exact hl1127 _ (zi h).symm
      ·intro u1048 h hl1049 hr1050
       obtain ⟨v19, hv19, h⟩ := zn h
       refine cond_some h (fun hg14_6 h => ?_) (fun hg14_6 h => ?_)
       ·obtain ⟨v20, hv20, h⟩ := zn h
        refine zg hn (_::_::_::_::_::(79,.ptr 3 12)::(80,vi p_r.Number)::(81,.ptr 2 1)::(82,vi s.Packs)::(83,vi v19)::(84,vb (p_r.Number == v19))::(85,vb true)::(86,.ptr 3 10)::(87,fi p_r.Ids)::(88,vi (p_r.Ids.length : Int))::(89,vb v20)::(90,vb v20)::(8,vb v20)::[]) [0,1,2,3,4] [0,1,2,3,4,17] [zq [1] 5 79,zq [5,1] 6 80,zq [0] 7 81,zq [7,0] 8 82,zq [8] 9 83,zq [6,9] 10 84,zq [10] 11 85,zq [11,1] 12 86,zq [11,12,1] 13 87,zq [11,13] 14 88,zq [11,14] 15 89,zq [11,15] 16 90,zq [16] 17 8] [(_,_),(_,_),(_,_),(_,_),(_,_),(_,_)] rfl ⟨zp rfl (oF underlying39 rfl sz3),zp rfl (oL underlying3 rfl),zp rfl (oF underlying43 rfl sz3),zp rfl (oL underlying3 rfl),zp rfl (oB rfl (ibind (f := int .i64) (Option.some.inj hv19))),z4 rfl rfl,z8 hg14_6 rfl,zr' rfl (oF underlying39 rfl sz37),zr' rfl (oL underlying37 rfl),zr' rfl (op_len_fl _ _ _ underlying37 rfl (by decide) (map_len _)),zr' rfl (op_call _ _ 30 _ _ rfl call30 rfl (ok_wherryref18_in (p_r.Ids.length : Int) 1 4 _ hv20) rfl rfl),z3 true rfl,z2 rfl,zz⟩ ?_
        exact hl1049 _ (zi h).symm
       ·refine zg hn (_::_::_::_::_::(79,.ptr 3 12)::(80,vi p_r.Number)::(81,.ptr 2 1)::(82,vi s.Packs)::(83,vi v19)::(84,vb (p_r.Number == v19))::(85,vb false)::(86,.v undef)::(87,.v undef)::(88,.v undef)::(89,.v undef)::(90,vb false)::(8,vb false)::[]) [0,1,2,3,4] [0,1,2,3,4,17] [zq [1] 5 79,zq [5,1] 6 80,zq [0] 7 81,zq [7,0] 8 82,zq [8] 9 83,zq [6,9] 10 84,zq [10] 11 85,zq [11] 12 86,zq [11] 13 87,zq [11] 14 88,zq [11] 15 89,zq [11] 16 90,zq [16] 17 8] [(_,_),(_,_),(_,_),(_,_),(_,_),(_,_)] rfl ⟨zp rfl (oF underlying39 rfl sz3),zp rfl (oL underlying3 rfl),zp rfl (oF underlying43 rfl sz3),zp rfl (oL underlying3 rfl),zp rfl (oB rfl (ibind (f := int .i64) (Option.some.inj hv19))),z4 rfl rfl,z8 hg14_6 rfl,zt rfl,zt rfl,zt rfl,zt rfl,z3 false rfl,z2 rfl,zz⟩ ?_
        exact hl1049 _ (zi h).symm
     ·have h := cond_f hb1046 h
      refine zgg hn [_,_,_,_,_,_,_,_,(169,vb (p_r.Kind == 3)),(168,vb (p_r.Kind == 3))] [0,1,2,3,4,5,6,7] [0,1,2,3,4,5,6,9] [zq [6] 8 169,zq [8] 9 168] [(_,_),(_,_),(_,_),(_,_),(_,_),(_,_),(_,_),(_,_)] rfl ⟨z4 rfl rfl,z2 rfl,zz⟩ ?_
      refine ht_cond _ rfl (fun hb1145 => ?_) (fun hb1145 => ?_)
      ·have h := cond_t hb1145 h
       refine zgg hn [_,_,_,_,_,_,_,_,(170,.ptr 3 12),(171,vi p_r.Number),(172,.ptr 7 12),(7,.box 39 [vi p_r.Kind,vb false,vs z0,vs z0,vz,vz,vb false,vs z0,vi 0,vi 0,vz,vi 0,vi p_r.Number,vi 0,vz])] [0,1,2,3,4,5,6,7] [0,1,2,3,11] [zq [1] 8 170,zq [8,1] 9 171,zq [4] 10 172,⟨[10,9],[4],[11],[.cell 7 12]⟩] [(_,_),(_,_),(_,_),(_,_),(_,_)] rfl ⟨zp rfl (oF underlying39 rfl sz3),zp rfl (oL underlying3 rfl),zp rfl (oF underlying39 rfl sz3),zp rfl (oS sz3 rfl),zz⟩ ?_
       refine ht_seq ?_
       refine ht_joinS h (fun (s1146 : Bool) => [(3,.box 39 (T_Rec.c p_r [])),(4,.box 43 [vz,vi 0,vz,vz,vi 0,vz]),(6,.box 43 [.fr (.own 75) false 11 (flatten (map T_Item.ienc v1.Items)),vi v1.Packs,.fl (.own 3) 1 (map (int .i64) v1.Sent),.fl (.own 5) 1 (map (int .u8) v1.Part),vi v1.Of,.fl (.own 3) 1 (map (int .i64) v1.Done)]),(7,.box 39 [vi p_r.Kind,vb false,vs z0,vs z0,vz,vz,vb false,vs z0,vi 0,vi 0,vz,vi 0,vi p_r.Number,vi 0,vz]),(8,vb s1146)]) ?_ ?_
       ·rintro s1146 h
        refine pt_then (ht_seq ?_)
        refine zgg hn [_,_,_,_,_,(11,vi 0)] [0,1,2,3,4] [0,1,2,3,4,5] [zq [] 5 11] [(_,_),(_,_),(_,_),(_,_),(_,_),(_,_)] rfl ⟨z2 rfl,zz⟩ ?_
        refine ht_loopS h (fun ((s1182,s1183) : (List T_Item) × Int) => [(3,.box 39 (T_Rec.c p_r [])),(4,.box 43 [vz,vi 0,vz,vz,vi 0,vz]),(6,.box 43 [.fr (.own 75) false 11 (flatten (map T_Item.ienc s1182)),vi v1.Packs,.fl (.own 3) 1 (map (int .i64) v1.Sent),.fl (.own 5) 1 (map (int .u8) v1.Part),vi v1.Of,.fl (.own 3) 1 (map (int .i64) v1.Done)]),(7,.box 39 [vi p_r.Kind,vb false,vs z0,vs z0,vz,vz,vb false,vs z0,vi 0,vi 0,vz,vi 0,vi p_r.Number,vi 0,vz]),(8,vb s1146),(11,vi s1183)]) (fun (s1199 : (List T_Item)) => [(3,.box 39 (T_Rec.c p_r [])),(4,.box 43 [vz,vi 0,vz,vz,vi 0,vz]),(6,.box 43 [.fr (.own 75) false 11 (flatten (map T_Item.ienc s1199)),vi v1.Packs,.fl (.own 3) 1 (map (int .i64) v1.Sent),.fl (.own 5) 1 (map (int .u8) v1.Part),vi v1.Of,.fl (.own 3) 1 (map (int .i64) v1.Done)]),(7,.box 39 [vi p_r.Kind,vb false,vs z0,vs z0,vz,vz,vb false,vs z0,vi 0,vi 0,vz,vi 0,vi p_r.Number,vi 0,vz]),(8,vb s1146)]) ?_ ?_
        ·rintro s1199 h
         refine pt_then ?_
         obtain ⟨v231, hv231, h⟩ := zn h
         refine zg hn [_,_,_,_,_,(216,.ptr 6 2),(217,.same (.cell 6 2)),(218,.ptr 3 12),(219,vi p_r.Number),(220,.fl (.own 3) 1 (map (int .i64) [p_r.Number])),(221,.fl (.own 3) 1 (map (int .i64) v231)),(6,.box 43 [.fr (.own 75) false 11 (flatten (map T_Item.ienc s1199)),vi v1.Packs,.any,.fl (.own 5) 1 (map (int .u8) v1.Part),vi v1.Of,.fl (.own 3) 1 (map (int .i64) v1.Done)]),(222,.ptr 6 2),(6,.box 43 [.fr (.own 75) false 11 (flatten (map T_Item.ienc s1199)),vi v1.Packs,.fl (.own 3) 1 (map (int .i64) v231),.fl (.own 5) 1 (map (int .u8) v1.Part),vi v1.Of,.fl (.own 3) 1 (map (int .i64) v1.Done)])] [0,1,2,3,4] [0,1,13,3,4] [zq [2] 5 216,zq [5,2] 6 217,zq [0] 7 218,zq [7,0] 8 219,zq [8] 9 220,⟨[6,9],[2],[11,10],[(.slot 221)]⟩,zq [11] 12 222,⟨[12],[6,10,11],[13],[.cell 6 2]⟩] [(_,_),(_,_),(_,_),(_,_),(_,_)] rfl ⟨zp rfl (oF underlying43 rfl sz37),zp rfl (oL underlying37 rfl),zp rfl (oF underlying39 rfl sz3),zp rfl (oL underlying3 rfl),zp rfl (op_buildSlice _ _ 1 (.int .i64 0) (map (int .i64) [p_r.Number]) [(0, .int .i64 p_r.Number)] underlying37 sz3 zr3 (fun _ V w o a hv hes => by have e0 := rd_v hv hes (x := .tmp 219) rfl; simp only [List.map_toArray, List.map_cons, List.map_nil, e0]; try rfl) (litfill (by simp [Instr.fill, Value.cells]; rfl) (by simp [List.range, List.range.loop] <;> rfl)) (by simp [Value.oneCell']) rfl (by decide) (by decide) (by decide)),zp rfl (op_app_cell _ _ _ _ _ _ el37 rfl rfl (zl rfl) rfl (map_len _) (map_len _) hv231 ((List.map_append).symm.trans (congrArg (map _) (app_eq hv231))) (Nat.ne_of_beq_eq_false rfl) rfl rfl),zp rfl (oF underlying43 rfl sz37),zp rfl (LOp.drop [_] (op_store_take _ _ _ _ _ _ _ _ sz37 rfl rfl rfl (zl rfl) rfl rfl)),zz⟩ ?_
         refine pt_inb ?_
         refine pt_sub (fs := [(3,.box 39 (T_Rec.c p_r [])),(4,.box 43 [vz,vi 0,vz,vz,vi 0,vz]),(6,.box 43 [.fr (.own 75) false 11 (flatten (map T_Item.ienc s1199)),vi v1.Packs,.fl (.own 3) 1 (map (int .i64) v231),.fl (.own 5) 1 (map (int .u8) v1.Part),vi v1.Of,.fl (.own 3) 1 (map (int .i64) v1.Done)]),(7,.box 39 [vi p_r.Kind,vb false,vs z0,vs z0,.fl .shr 3 (flatten (map T_Path.enc [])),fb [],vb false,vs z0,vi 0,vi 0,fi [],vi 0,vi p_r.Number,vi 0,fb []]),(8,vb s1146)]) (.same _ (.same _ (.same _ (.box _ _ (subs_cons (sub_refl _) (subs_cons (sub_refl _) (subs_cons (sub_refl _) (subs_cons (sub_refl _) (subs_cons (sub_nil_shr 3) (subs_cons (sub_nil_shr 1) (subs_cons (sub_refl _) (subs_cons (sub_refl _) (subs_cons (sub_refl _) (subs_cons (sub_refl _) (subs_cons (sub_nil_shr 1) (subs_cons (sub_refl _) (subs_cons (sub_refl _) (subs_cons (sub_refl _) (subs_cons (sub_nil_shr 1) (subs_nil)))))))))))))))) rfl (.same _ .nil))))) ?_
         exact hl1033 _ (zi h).symm
        ·rintro u1200 hl1201 hr1202 ⟨s1182, s1183⟩ rr1205 h ho1203
         refine ht_seq ?_
         refine zgg hn [_,_,_,_,_,_,(186,vi s1183),(187,.ptr 6 0),(188,.same (.cell 6 0)),(189,vi (s1182.length : Int)),(190,vb (decide (s1183 < (s1182.length : Int))))] [0,1,2,3,4,5] [0,1,2,3,4,5,10] [zq [5] 6 186,zq [2] 7 187,zq [7,2] 8 188,zq [8,2] 9 189,zq [6,9] 10 190] [(_,_),(_,_),(_,_),(_,_),(_,_),(_,_),(_,_)] rfl ⟨z1 rfl,zp rfl (oF underlying43 rfl sz41),zp rfl (oL underlying41 rfl),zp rfl (op_len_fr _ _ _ underlying41 rfl (by decide) (gflat_len T_Item.ilen _)),z4 rfl rfl,zz⟩ ?_
         refine ht_cond _ rfl (fun hb1206 => ?_) (fun hb1206 => ?_)
         ·have h := cond_t hb1206 h
          refine ht_skip ?_
          refine pt_then (ht_seq ?_)
          refine ht_joinS h (fun (s1212 : (List T_Item)) => [(3,.box 39 (T_Rec.c p_r [])),(4,.box 43 [vz,vi 0,vz,vz,vi 0,vz]),(6,.box 43 [.fr (.own 75) false 11 (flatten (map T_Item.ienc s1212)),vi v1.Packs,.fl (.own 3) 1 (map (int .i64) v1.Sent),.fl (.own 5) 1 (map (int .u8) v1.Part),vi v1.Of,.fl (.own 3) 1 (map (int .i64) v1.Done)]),(7,.box 39 [vi p_r.Kind,vb false,vs z0,vs z0,vz,vz,vb false,vs z0,vi 0,vi 0,vz,vi 0,vi p_r.Number,vi 0,vz]),(8,vb s1146),(11,vi s1183)]) ?_ ?_
          ·rintro s1212 h
           refine pt_then ?_
           obtain ⟨v174, hv174, h⟩ := zn h
           refine zg hn [_,_,_,_,_,_,(191,vi s1183),(192,vi v174),(11,vi v174)] [0,1,2,3,4,5] [0,1,2,3,4,8] [zq [5] 6 191,zq [6] 7 192,⟨[7],[5],[8],[(.slot 11)]⟩] [(_,_),(_,_),(_,_),(_,_),(_,_),(_,_)] rfl ⟨z1 rfl,zp rfl (oB rfl (ibind (f := int .i64) (Option.some.inj hv174))),zp rfl (LOp.drop [_] (op_assign _ _ _ _ rfl rfl)),zz⟩ ?_
           exact pt_next _ (zi h).symm rfl
          ·intro u1213 h hl1214 hr1215
           refine ht_block ?_
           refine ht_seq ?_
           refine ht_joinS h (fun (s1216 : Bool) => [(3,.box 39 (T_Rec.c p_r [])),(4,.box 43 [vz,vi 0,vz,vz,vi 0,vz]),(6,.box 43 [.fr (.own 75) false 11 (flatten (map T_Item.ienc s1182)),vi v1.Packs,.fl (.own 3) 1 (map (int .i64) v1.Sent),.fl (.own 5) 1 (map (int .u8) v1.Part),vi v1.Of,.fl (.own 3) 1 (map (int .i64) v1.Done)]),(7,.box 39 [vi p_r.Kind,vb false,vs z0,vs z0,vz,vz,vb false,vs z0,vi 0,vi 0,vz,vi 0,vi p_r.Number,vi 0,vz]),(8,vb s1146),(11,vi s1183),(210,vb s1216)]) ?_ ?_
           ·rintro s1216 h
            refine pt_then ?_
            refine ht_cond _ rfl (fun hb1220 => ?_) (fun hb1220 => ?_)
            ·have h := cond_t hb1220 h
             obtain ⟨v162, hv162, h⟩ := zn h
             obtain ⟨v163, hv163, h⟩ := zn h
             obtain ⟨v164, hv164, h⟩ := zn h
             refine zg hn [_,_,_,_,_,_,_,(211,.ptr 6 0),(212,.same (.cell 6 0)),(213,vi s1183),(214,.eref (.cell 6 0) (v162 * 11)),(215,.eref (.cell 6 0) (v162 * 11 + 9)),(6,.box 43 [.fr (.own 75) false 11 (flatten (map T_Item.ienc v164)),vi v1.Packs,.fl (.own 3) 1 (map (int .i64) v1.Sent),.fl (.own 5) 1 (map (int .u8) v1.Part),vi v1.Of,.fl (.own 3) 1 (map (int .i64) v1.Done)])] [0,1,2,3,4,5,6] [0,1,12,3,4,5] [zq [2] 7 211,zq [7,2] 8 212,zq [5] 9 213,zq [8,2,9] 10 214,zq [10,2] 11 215,⟨[11],[2],[12],[]⟩] [(_,_),(_,_),(_,_),(_,_),(_,_),(_,_)] rfl ⟨zp rfl (oF underlying43 rfl sz41),zp rfl (oL underlying41 rfl),z1 rfl,zp rfl (op_ix_fr _ _ _ _ _ _ _ _ underlying41 sz75 (by decide) rfl rfl rfl (ix_ok hv162).1 (gflat_lt T_Item.ilen (ix_ok hv162).2) rfl),zp rfl (op_fieldAddr_e _ _ _ _ _ _ _ underlying75 rfl sz3 rfl rfl rfl),zp rfl (op_store_fr_cell _ _ _ 6 0 _ 1 _ sz3 rfl rfl (zl rfl) rfl rfl (by decide) (gflat_fit (q := 9) (s := 1) T_Item.ilen hv163 (by decide)) ((gflat_setc (q := 9) (s := 1) (y := (T_Item.mk v163.Id ((T_Mail.mk (T_Path.mk v163.Mail.From.Null v163.Mail.From.Local v163.Mail.From.Domain) v163.Mail.To v163.Mail.Body v163.Mail.Quiet v163.Mail.Helo v163.Mail.At)) 3 v163.Pack)) T_Item.ilen hv163 rfl (by decide)).trans (congrArg (fun l => flatten (map T_Item.ienc l)) (Option.some.inj hv164))) rfl),zz⟩ ?_
             refine pt_inb ?_
             exact hl1214 _ (zi h).symm
            ·have h := cond_f hb1220 h
             refine ht_skip ?_
             refine pt_inb ?_
             refine pt_pick [0,1,2,3,4,5] (by kernel_rfl) (es' := [(_,_),(_,_),(_,_),(_,_),(_,_),(_,_)]) rfl ?_
             exact hl1214 _ (zi h).symm
           ·intro u1217 h hl1218 hr1219
            obtain ⟨v153, hv153, h⟩ := zn h
            obtain ⟨v154, hv154, h⟩ := zn h
            refine cond_some h (fun hg28_9 h => ?_) (fun hg28_9 h => ?_)
            ·obtain ⟨v155, hv155, h⟩ := zn h
             obtain ⟨v156, hv156, h⟩ := zn h
             refine ht_anyR (by kernel_rfl) hn (El := (_ :: _ :: _ :: _ :: _ :: _ :: _ :: (193,.ptr 6 0) :: (194,.same (.cell 6 0)) :: (195,vi s1183) :: (196,.eref (.cell 6 0) (v153 * 11)) :: (197,.eref (.cell 6 0) (v153 * 11 + 10)) :: (198,vi v154.Pack) :: (199,.ptr 3 12) :: (200,vi p_r.Number) :: (201,vb (v154.Pack == p_r.Number)) :: (202,vb true) :: (203,.ptr 6 0) :: (204,.same (.cell 6 0)) :: (205,vi s1183) :: (206,.eref (.cell 6 0) (v155 * 11)) :: (207,.eref (.cell 6 0) (v155 * 11 + 9)) :: (208,vi v156.State) :: (209,vb (v156.State == 2)) :: (210,vb (v156.State == 2)) :: [])) (init := [0,1,2,3,4,5,6]) (fin := [0,1,2,3,4,5,24]) (sps := (zq [2] 7 193 :: zq [7,2] 8 194 :: zq [5] 9 195 :: zq [8,2,9] 10 196 :: zq [10,2] 11 197 :: zq [11,2] 12 198 :: zq [0] 13 199 :: zq [13,0] 14 200 :: zq [12,14] 15 201 :: zq [15] 16 202 :: zq [16,2] 17 203 :: zq [16,17,2] 18 204 :: zq [16,5] 19 205 :: zq [16,18,2,19] 20 206 :: zq [16,20,2] 21 207 :: zq [16,21,2] 22 208 :: zq [16,22] 23 209 :: zq [16,23] 24 210 :: [])) (es' := [(_,_),(_,_),(_,_),(_,_),(_,_),(_,_),(210,vb (v156.State == 2))]) (by kernel_rfl) rfl rfl ⟨zp rfl (oF underlying43 rfl sz41),zp rfl (oL underlying41 rfl),z1 rfl,zp rfl (op_ix_fr _ _ _ _ _ _ _ _ underlying41 sz75 (by decide) rfl rfl rfl (ix_ok hv153).1 (gflat_lt T_Item.ilen (ix_ok hv153).2) rfl),zp rfl (op_fieldAddr_e _ _ _ _ _ _ _ underlying75 rfl sz3 rfl rfl rfl),zp rfl (op_load_fr _ _ _ _ _ _ _ underlying3 rfl rfl rfl (gflat_cell T_Item.ilen hv154 rfl) (.v _)),zp rfl (oF underlying39 rfl sz3),zp rfl (oL underlying3 rfl),z4 rfl rfl,z8 hg28_9 rfl,zr' rfl (oF underlying43 rfl sz41),zr' rfl (oL underlying41 rfl),zr' rfl (oM rfl),zr' rfl (op_ix_fr _ _ _ _ _ _ _ _ underlying41 sz75 (by decide) rfl rfl rfl (ix_ok hv155).1 (gflat_lt T_Item.ilen (ix_ok hv155).2) rfl),zr' rfl (op_fieldAddr_e _ _ _ _ _ _ _ underlying75 rfl sz3 rfl rfl rfl),zr' rfl (op_load_fr _ _ _ _ _ _ _ underlying3 rfl rfl rfl (gflat_cell T_Item.ilen hv156 rfl) (.v _)),zr' rfl (oB rfl rfl),z3 true rfl,zz⟩ ?_
             exact hl1218 _ (zi h).symm
            ·refine ht_anyR (by kernel_rfl) hn (El := (_ :: _ :: _ :: _ :: _ :: _ :: _ :: (193,.ptr 6 0) :: (194,.same (.cell 6 0)) :: (195,vi s1183) :: (196,.eref (.cell 6 0) (v153 * 11)) :: (197,.eref (.cell 6 0) (v153 * 11 + 10)) :: (198,vi v154.Pack) :: (199,.ptr 3 12) :: (200,vi p_r.Number) :: (201,vb (v154.Pack == p_r.Number)) :: (202,vb false) :: (203,.v undef) :: (204,.v undef) :: (205,.v undef) :: (206,.v undef) :: (207,.v undef) :: (208,.v undef) :: (209,.v undef) :: (210,vb false) :: [])) (init := [0,1,2,3,4,5,6]) (fin := [0,1,2,3,4,5,24]) (sps := (zq [2] 7 193 :: zq [7,2] 8 194 :: zq [5] 9 195 :: zq [8,2,9] 10 196 :: zq [10,2] 11 197 :: zq [11,2] 12 198 :: zq [0] 13 199 :: zq [13,0] 14 200 :: zq [12,14] 15 201 :: zq [15] 16 202 :: zq [16] 17 203 :: zq [16] 18 204 :: zq [16] 19 205 :: zq [16] 20 206 :: zq [16] 21 207 :: zq [16] 22 208 :: zq [16] 23 209 :: zq [16] 24 210 :: [])) (es' := [(_,_),(_,_),(_,_),(_,_),(_,_),(_,_),(210,vb false)]) (by kernel_rfl) rfl rfl ⟨zp rfl (oF underlying43 rfl sz41),zp rfl (oL underlying41 rfl),z1 rfl,zp rfl (op_ix_fr _ _ _ _ _ _ _ _ underlying41 sz75 (by decide) rfl rfl rfl (ix_ok hv153).1 (gflat_lt T_Item.ilen (ix_ok hv153).2) rfl),zp rfl (op_fieldAddr_e _ _ _ _ _ _ _ underlying75 rfl sz3 rfl rfl rfl),zp rfl (op_load_fr _ _ _ _ _ _ _ underlying3 rfl rfl rfl (gflat_cell T_Item.ilen hv154 rfl) (.v _)),zp rfl (oF underlying39 rfl sz3),zp rfl (oL underlying3 rfl),z4 rfl rfl,z8 hg28_9 rfl,zt rfl,zt rfl,zt rfl,zt rfl,zt rfl,zt rfl,zt rfl,z3 false rfl,zz⟩ ?_
             exact hl1218 _ (zi h).symm
         ·have h := cond_f hb1206 h
          refine ht_exit ?_
          refine pt_x_then ?_
          refine pt_x_then ?_
          refine pt_x_in ?_
          refine pt_pick [0,1,2,3,4] (by kernel_rfl) (es' := [(_,_),(_,_),(_,_),(_,_),(_,_)]) rfl ?_
          exact hl1201 _ (ho1203 _ (zi h).symm).symm
       ·intro u1147 h hl1148 hr1149
        obtain ⟨v146, hv146, h⟩ := zn h
        refine cond_some h (fun hg24_5 h => ?_) (fun hg24_5 h => ?_)
        ·obtain ⟨v147, hv147, h⟩ := zn h
         refine zg hn (_::_::_::_::_::(173,.ptr 3 12)::(174,vi p_r.Number)::(175,.ptr 2 1)::(176,vi s.Packs)::(177,vb v146)::(178,vb true)::(179,.ptr 2 2)::(180,fi s.Sent)::(181,.ptr 3 12)::(182,vi p_r.Number)::(183,vb v147)::(184,vb (!v147))::(185,vb (!v147))::(8,vb (!v147))::[]) [0,1,2,3,4] [1,2,3,4,18] [zq [1] 5 173,zq [5,1] 6 174,zq [0] 7 175,zq [7,0] 8 176,zq [6,8] 9 177,zq [9] 10 178,zq [10,0] 11 179,zq [10,11,0] 12 180,zq [10,1] 13 181,zq [10,13,1] 14 182,zq [10,12,14] 15 183,zq [10,15] 16 184,zq [10,16] 17 185,zq [17] 18 8] [(_,_),(_,_),(_,_),(_,_),(_,_)] rfl ⟨zp rfl (oF underlying39 rfl sz3),zp rfl (oL underlying3 rfl),zp rfl (oF underlying43 rfl sz3),zp rfl (oL underlying3 rfl),zp rfl (op_call _ _ 30 _ _ rfl call30 rfl (ok_wherryref18_in p_r.Number 1 s.Packs _ hv146) rfl rfl),z8 hg24_5 rfl,zr' rfl (oF underlying43 rfl sz37),zr' rfl (oL underlying37 rfl),zr' rfl (oF underlying39 rfl sz3),zr' rfl (oL underlying3 rfl),zr' rfl (op_call _ _ 33 _ _ rfl call33 rfl (ok_wherryref18_has s.Sent p_r.Number _ hv147) rfl rfl),zr' rfl (op_un _ _ _ _ rfl rfl),z3 true rfl,z2 rfl,zz⟩ ?_
         exact hl1148 _ (zi h).symm
        ·refine zg hn (_::_::_::_::_::(173,.ptr 3 12)::(174,vi p_r.Number)::(175,.ptr 2 1)::(176,vi s.Packs)::(177,vb v146)::(178,vb false)::(179,.v undef)::(180,.v undef)::(181,.v undef)::(182,.v undef)::(183,.v undef)::(184,.v undef)::(185,vb false)::(8,vb false)::[]) [0,1,2,3,4] [1,2,3,4,18] [zq [1] 5 173,zq [5,1] 6 174,zq [0] 7 175,zq [7,0] 8 176,zq [6,8] 9 177,zq [9] 10 178,zq [10] 11 179,zq [10] 12 180,zq [10] 13 181,zq [10] 14 182,zq [10] 15 183,zq [10] 16 184,zq [10] 17 185,zq [17] 18 8] [(_,_),(_,_),(_,_),(_,_),(_,_)] rfl ⟨zp rfl (oF underlying39 rfl sz3),zp rfl (oL underlying3 rfl),zp rfl (oF underlying43 rfl sz3),zp rfl (oL underlying3 rfl),zp rfl (op_call _ _ 30 _ _ rfl call30 rfl (ok_wherryref18_in p_r.Number 1 s.Packs _ hv146) rfl rfl),z8 hg24_5 rfl,zt rfl,zt rfl,zt rfl,zt rfl,zt rfl,zt rfl,z3 false rfl,z2 rfl,zz⟩ ?_
         exact hl1148 _ (zi h).symm
      ·have h := cond_f hb1145 h
       refine zgg hn [_,_,_,_,_,_,_,_,(224,vb (p_r.Kind == 4)),(223,vb (p_r.Kind == 4))] [0,1,2,3,4,5,6,7] [0,1,2,3,4,5,6,9] [zq [6] 8 224,zq [8] 9 223] [(_,_),(_,_),(_,_),(_,_),(_,_),(_,_),(_,_),(_,_)] rfl ⟨z4 rfl rfl,z2 rfl,zz⟩ ?_
       refine ht_cond _ rfl (fun hb1221 => ?_) (fun hb1221 => ?_)
       ·have h := cond_t hb1221 h
        refine zgg hn [_,_,_,_,_,_,_,_,(225,.ptr 3 9),(226,vi p_r.Id),(227,.ptr 7 9),(7,.box 39 [vi p_r.Kind,vb false,vs z0,vs z0,vz,vz,vb false,vs z0,vi 0,vi p_r.Id,vz,vi 0,vi 0,vi 0,vz])] [0,1,2,3,4,5,6,7] [0,1,2,3,11] [zq [1] 8 225,zq [8,1] 9 226,zq [4] 10 227,⟨[10,9],[4],[11],[.cell 7 9]⟩] [(_,_),(_,_),(_,_),(_,_),(_,_)] rfl ⟨zp rfl (oF underlying39 rfl sz3),zp rfl (oL underlying3 rfl),zp rfl (oF underlying39 rfl sz3),zp rfl (oS sz3 rfl),zz⟩ ?_
        refine ht_seq ?_
        refine ht_joinS h (fun (s1222 : Bool) => [(3,.box 39 (T_Rec.c p_r [])),(4,.box 43 [vz,vi 0,vz,vz,vi 0,vz]),(6,.box 43 [.fr (.own 75) false 11 (flatten (map T_Item.ienc v1.Items)),vi v1.Packs,.fl (.own 3) 1 (map (int .i64) v1.Sent),.fl (.own 5) 1 (map (int .u8) v1.Part),vi v1.Of,.fl (.own 3) 1 (map (int .i64) v1.Done)]),(7,.box 39 [vi p_r.Kind,vb false,vs z0,vs z0,vz,vz,vb false,vs z0,vi 0,vi p_r.Id,vz,vi 0,vi 0,vi 0,vz]),(8,vb s1222)]) ?_ ?_
        ·rintro s1222 h
         refine pt_then ?_
         refine zgg hn [_,_,_,_,_,(245,vb s1222)] [0,1,2,3,4] [0,1,2,3,4,5] [zq [4] 5 245] [(_,_),(_,_),(_,_),(_,_),(_,_),(_,_)] rfl ⟨z1 rfl,zz⟩ ?_
         refine ht_cond _ rfl (fun hb1226 => ?_) (fun hb1226 => ?_)
         ·have h := cond_t hb1226 h
          obtain ⟨v242, hv242, h⟩ := zn h
          obtain ⟨v243, hv243, h⟩ := zn h
          obtain ⟨v244, hv244, h⟩ := zn h
          obtain ⟨v245, hv245, h⟩ := zn h
          refine zg hn [_,_,_,_,_,_,(246,.ptr 6 0),(247,.same (.cell 6 0)),(248,.ptr 3 9),(249,vi p_r.Id),(250,vi v242),(251,.eref (.cell 6 0) (v243 * 11)),(252,.eref (.cell 6 0) (v243 * 11 + 9)),(6,.box 43 [.fr (.own 75) false 11 (flatten (map T_Item.ienc v245)),vi v1.Packs,.fl (.own 3) 1 (map (int .i64) v1.Sent),.fl (.own 5) 1 (map (int .u8) v1.Part),vi v1.Of,.fl (.own 3) 1 (map (int .i64) v1.Done)])] [0,1,2,3,4,5] [0,1,13,3,4] [zq [2] 6 246,zq [6,2] 7 247,zq [0] 8 248,zq [8,0] 9 249,zq [9] 10 250,zq [7,2,10] 11 251,zq [11,2] 12 252,⟨[12],[2],[13],[]⟩] [(_,_),(_,_),(_,_),(_,_),(_,_)] rfl ⟨zp rfl (oF underlying43 rfl sz41),zp rfl (oL underlying41 rfl),zp rfl (oF underlying39 rfl sz3),zp rfl (oL underlying3 rfl),zp rfl (oB rfl (ibind (f := int .i64) (Option.some.inj hv242))),zp rfl (op_ix_fr _ _ _ _ _ _ _ _ underlying41 sz75 (by decide) rfl rfl rfl (ix_ok hv243).1 (gflat_lt T_Item.ilen (ix_ok hv243).2) rfl),zp rfl (op_fieldAddr_e _ _ _ _ _ _ _ underlying75 rfl sz3 rfl rfl rfl),zp rfl (op_store_fr_cell _ _ _ 6 0 _ 1 _ sz3 rfl rfl (zl rfl) rfl rfl (by decide) (gflat_fit (q := 9) (s := 1) T_Item.ilen hv244 (by decide)) ((gflat_setc (q := 9) (s := 1) (y := (T_Item.mk v244.Id ((T_Mail.mk (T_Path.mk v244.Mail.From.Null v244.Mail.From.Local v244.Mail.From.Domain) v244.Mail.To v244.Mail.Body v244.Mail.Quiet v244.Mail.Helo v244.Mail.At)) 4 v244.Pack)) T_Item.ilen hv244 rfl (by decide)).trans (congrArg (fun l => flatten (map T_Item.ienc l)) (Option.some.inj hv245))) rfl),zz⟩ ?_
          refine pt_inb ?_
          refine pt_sub (fs := [(3,.box 39 (T_Rec.c p_r [])),(4,.box 43 [vz,vi 0,vz,vz,vi 0,vz]),(6,.box 43 [.fr (.own 75) false 11 (flatten (map T_Item.ienc v245)),vi v1.Packs,.fl (.own 3) 1 (map (int .i64) v1.Sent),.fl (.own 5) 1 (map (int .u8) v1.Part),vi v1.Of,.fl (.own 3) 1 (map (int .i64) v1.Done)]),(7,.box 39 [vi p_r.Kind,vb false,vs z0,vs z0,.fl .shr 3 (flatten (map T_Path.enc [])),fb [],vb false,vs z0,vi 0,vi p_r.Id,fi [],vi 0,vi 0,vi 0,fb []]),(8,vb s1222)]) (.same _ (.same _ (.same _ (.box _ _ (subs_cons (sub_refl _) (subs_cons (sub_refl _) (subs_cons (sub_refl _) (subs_cons (sub_refl _) (subs_cons (sub_nil_shr 3) (subs_cons (sub_nil_shr 1) (subs_cons (sub_refl _) (subs_cons (sub_refl _) (subs_cons (sub_refl _) (subs_cons (sub_refl _) (subs_cons (sub_nil_shr 1) (subs_cons (sub_refl _) (subs_cons (sub_refl _) (subs_cons (sub_refl _) (subs_cons (sub_nil_shr 1) (subs_nil)))))))))))))))) rfl (.same _ .nil))))) ?_
          exact hl1033 _ (zi h).symm
         ·have h := cond_f hb1226 h
          refine ht_skip ?_
          refine pt_inb ?_
          refine pt_pick [0,1,2,3,4] (by kernel_rfl) (es' := [(_,_),(_,_),(_,_),(_,_),(_,_)]) rfl ?_
          refine pt_sub (fs := [(3,.box 39 (T_Rec.c p_r [])),(4,.box 43 [vz,vi 0,vz,vz,vi 0,vz]),(6,.box 43 [.fr (.own 75) false 11 (flatten (map T_Item.ienc v1.Items)),vi v1.Packs,.fl (.own 3) 1 (map (int .i64) v1.Sent),.fl (.own 5) 1 (map (int .u8) v1.Part),vi v1.Of,.fl (.own 3) 1 (map (int .i64) v1.Done)]),(7,.box 39 [vi p_r.Kind,vb false,vs z0,vs z0,.fl .shr 3 (flatten (map T_Path.enc [])),fb [],vb false,vs z0,vi 0,vi p_r.Id,fi [],vi 0,vi 0,vi 0,fb []]),(8,vb s1222)]) (.same _ (.same _ (.same _ (.box _ _ (subs_cons (sub_refl _) (subs_cons (sub_refl _) (subs_cons (sub_refl _) (subs_cons (sub_refl _) (subs_cons (sub_nil_shr 3) (subs_cons (sub_nil_shr 1) (subs_cons (sub_refl _) (subs_cons (sub_refl _) (subs_cons (sub_refl _) (subs_cons (sub_refl _) (subs_cons (sub_nil_shr 1) (subs_cons (sub_refl _) (subs_cons (sub_refl _) (subs_cons (sub_refl _) (subs_cons (sub_nil_shr 1) (subs_nil)))))))))))))))) rfl (.same _ .nil))))) ?_
          exact hl1033 _ (zi h).symm
        ·intro u1223 h hl1224 hr1225
         obtain ⟨v233, hv233, h⟩ := zn h
         refine cond_some h (fun hg33_6 h => ?_) (fun hg33_6 h => ?_)
         ·obtain ⟨v234, hv234, h⟩ := zn h
          obtain ⟨v235, hv235, h⟩ := zn h
          obtain ⟨v236, hv236, h⟩ := zn h
          refine zg hn (_::_::_::_::_::(228,.ptr 3 9)::(229,vi p_r.Id)::(230,.ptr 2 0)::(231,.fr .shr true 11 (flatten (map T_Item.ienc s.Items)))::(232,vi (s.Items.length : Int))::(233,vb v233)::(234,vb true)::(235,.ptr 2 0)::(236,.fr .shr true 11 (flatten (map T_Item.ienc s.Items)))::(237,.ptr 3 9)::(238,vi p_r.Id)::(239,vi v234)::(240,.eref (.slot 236) (v235 * 11))::(241,.eref (.slot 236) (v235 * 11 + 9))::(242,vi v236.State)::(243,vb (v236.State == 1))::(244,vb (v236.State == 1))::(8,vb (v236.State == 1))::[]) [0,1,2,3,4] [1,2,3,4,22] (zq [1] 5 228::zq [5,1] 6 229::zq [0] 7 230::zq [7,0] 8 231::zq [8] 9 232::zq [6,9] 10 233::zq [10] 11 234::zq [11,0] 12 235::zq [11,12,0] 13 236::zq [11,1] 14 237::zq [11,14,1] 15 238::zq [11,15] 16 239::zq [11,13,16] 17 240::zq [11,17,13] 18 241::zq [11,18,13] 19 242::zq [11,19] 20 243::zq [11,20] 21 244::zq [21] 22 8::[]) [(_,_),(_,_),(_,_),(_,_),(_,_)] rfl ⟨zp rfl (oF underlying39 rfl sz3),zp rfl (oL underlying3 rfl),zp rfl (oF underlying43 rfl sz41),zp rfl (oL underlying41 rfl),zp rfl (op_len_fr _ _ _ underlying41 rfl (by decide) (gflat_len T_Item.ilen _)),zp rfl (op_call _ _ 30 _ _ rfl call30 rfl (ok_wherryref18_in p_r.Id 1 (s.Items.length : Int) _ hv233) rfl rfl),z8 hg33_6 rfl,zr' rfl (oF underlying43 rfl sz41),zr' rfl (oL underlying41 rfl),zr' rfl (oF underlying39 rfl sz3),zr' rfl (oL underlying3 rfl),zr' rfl (oB rfl (ibind (f := int .i64) (Option.some.inj hv234))),zr' rfl (op_ix_fr _ _ _ _ _ _ _ _ underlying41 sz75 (by decide) rfl rfl rfl (ix_ok hv235).1 (gflat_lt T_Item.ilen (ix_ok hv235).2) rfl),zr' rfl (op_fieldAddr_e _ _ _ _ _ _ _ underlying75 rfl sz3 rfl rfl rfl),zr' rfl (op_load_fr _ _ _ _ _ _ _ underlying3 rfl rfl rfl (gflat_cell T_Item.ilen hv236 rfl) (.v _)),zr' rfl (oB rfl rfl),z3 true rfl,z2 rfl,zz⟩ ?_
          exact hl1224 _ (zi h).symm
         ·refine zg hn (_::_::_::_::_::(228,.ptr 3 9)::(229,vi p_r.Id)::(230,.ptr 2 0)::(231,.fr .shr true 11 (flatten (map T_Item.ienc s.Items)))::(232,vi (s.Items.length : Int))::(233,vb v233)::(234,vb false)::(235,.v undef)::(236,.v undef)::(237,.v undef)::(238,.v undef)::(239,.v undef)::(240,.v undef)::(241,.v undef)::(242,.v undef)::(243,.v undef)::(244,vb false)::(8,vb false)::[]) [0,1,2,3,4] [1,2,3,4,22] (zq [1] 5 228::zq [5,1] 6 229::zq [0] 7 230::zq [7,0] 8 231::zq [8] 9 232::zq [6,9] 10 233::zq [10] 11 234::zq [11] 12 235::zq [11] 13 236::zq [11] 14 237::zq [11] 15 238::zq [11] 16 239::zq [11] 17 240::zq [11] 18 241::zq [11] 19 242::zq [11] 20 243::zq [11] 21 244::zq [21] 22 8::[]) [(_,_),(_,_),(_,_),(_,_),(_,_)] rfl ⟨zp rfl (oF underlying39 rfl sz3),zp rfl (oL underlying3 rfl),zp rfl (oF underlying43 rfl sz41),zp rfl (oL underlying41 rfl),zp rfl (op_len_fr _ _ _ underlying41 rfl (by decide) (gflat_len T_Item.ilen _)),zp rfl (op_call _ _ 30 _ _ rfl call30 rfl (ok_wherryref18_in p_r.Id 1 (s.Items.length : Int) _ hv233) rfl rfl),z8 hg33_6 rfl,zt rfl,zt rfl,zt rfl,zt rfl,zt rfl,zt rfl,zt rfl,zt rfl,zt rfl,z3 false rfl,z2 rfl,zz⟩ ?_
          exact hl1224 _ (zi h).symm
       ·have h := cond_f hb1221 h
        refine zgg hn [_,_,_,_,_,_,_,_,(254,vb (p_r.Kind == 5)),(253,vb (p_r.Kind == 5))] [0,1,2,3,4,5,6,7] [0,1,2,3,4,5,6,9] [zq [6] 8 254,zq [8] 9 253] [(_,_),(_,_),(_,_),(_,_),(_,_),(_,_),(_,_),(_,_)] rfl ⟨z4 rfl rfl,z2 rfl,zz⟩ ?_
        refine ht_cond _ rfl (fun hb1227 => ?_) (fun hb1227 => ?_)
        ·have h := cond_t hb1227 h
         refine ht_seq ?_
         refine ht_anyR (by kernel_rfl) hn (El := (_ :: _ :: _ :: _ :: _ :: _ :: _ :: _ :: (255,.ptr 3 12) :: (256,vi p_r.Number) :: (257,.ptr 3 13) :: (258,vi p_r.Offset) :: (259,.ptr 3 14) :: (260,fb p_r.Data) :: (261,.ptr 7 12) :: (7,.box 39 [vi p_r.Kind,vb false,vs z0,vs z0,vz,vz,vb false,vs z0,vi 0,vi 0,vz,vi 0,vi p_r.Number,vi 0,vz]) :: (262,.ptr 7 13) :: (7,.box 39 [vi p_r.Kind,vb false,vs z0,vs z0,vz,vz,vb false,vs z0,vi 0,vi 0,vz,vi 0,vi p_r.Number,vi p_r.Offset,vz]) :: (263,.ptr 7 14) :: (7,.box 39 [vi p_r.Kind,vb false,vs z0,vs z0,vz,vz,vb false,vs z0,vi 0,vi 0,vz,vi 0,vi p_r.Number,vi p_r.Offset,fb p_r.Data]) :: [])) (init := [0,1,2,3,4,5,6,7]) (fin := [0,1,2,3,19]) (sps := [zq [1] 8 255,zq [8,1] 9 256,zq [1] 10 257,zq [10,1] 11 258,zq [1] 12 259,zq [12,1] 13 260,zq [4] 14 261,⟨[14,9],[4],[15],[.cell 7 12]⟩,zq [15] 16 262,⟨[16,11],[15],[17],[.cell 7 13]⟩,zq [17] 18 263,⟨[18,13],[17],[19],[.cell 7 14]⟩]) (es' := [(_,_),(_,_),(_,_),(_,_),(7,.box 39 [vi p_r.Kind,vb false,vs z0,vs z0,vz,vz,vb false,vs z0,vi 0,vi 0,vz,vi 0,vi p_r.Number,vi p_r.Offset,fb p_r.Data])]) (by kernel_rfl) rfl rfl ⟨zp rfl (oF underlying39 rfl sz3),zp rfl (oL underlying3 rfl),zp rfl (oF underlying39 rfl sz3),zp rfl (oL underlying3 rfl),zp rfl (oF underlying39 rfl sz25),zp rfl (oL underlying25 rfl),zp rfl (oF underlying39 rfl sz3),zp rfl (oS sz3 rfl),zp rfl (oF underlying39 rfl sz3),zp rfl (oS sz3 rfl),zp rfl (oF underlying39 rfl sz25),zp rfl (oS sz25 rfl),zz⟩ ?_
         refine pt_then (ht_seq ?_)
         refine ht_joinS h (fun (s1228 : Bool) => [(3,.box 39 (T_Rec.c p_r [])),(4,.box 43 [vz,vi 0,vz,vz,vi 0,vz]),(6,.box 43 [.fr (.own 75) false 11 (flatten (map T_Item.ienc v1.Items)),vi v1.Packs,.fl (.own 3) 1 (map (int .i64) v1.Sent),.fl (.own 5) 1 (map (int .u8) v1.Part),vi v1.Of,.fl (.own 3) 1 (map (int .i64) v1.Done)]),(7,.box 39 [vi p_r.Kind,vb false,vs z0,vs z0,vz,vz,vb false,vs z0,vi 0,vi 0,vz,vi 0,vi p_r.Number,vi p_r.Offset,fb p_r.Data]),(8,vb s1228)]) ?_ ?_
         ·rintro s1228 h
          refine pt_then (ht_seq ?_)
          refine ht_joinS h (fun ((s1233,s1234) : (List Int) × Int) => [(3,.box 39 (T_Rec.c p_r [])),(4,.box 43 [vz,vi 0,vz,vz,vi 0,vz]),(6,.box 43 [.fr (.own 75) false 11 (flatten (map T_Item.ienc v1.Items)),vi v1.Packs,.fl (.own 3) 1 (map (int .i64) v1.Sent),.fl (.own 5) 1 (map (int .u8) s1233),vi s1234,.fl (.own 3) 1 (map (int .i64) v1.Done)]),(7,.box 39 [vi p_r.Kind,vb false,vs z0,vs z0,vz,vz,vb false,vs z0,vi 0,vi 0,vz,vi 0,vi p_r.Number,vi p_r.Offset,fb p_r.Data]),(8,vb s1228)]) ?_ ?_
          ·rintro ⟨s1233, s1234⟩ h
           refine pt_then ?_
           refine ht_joinS h (fun (s1239 : Bool) => [(3,.box 39 (T_Rec.c p_r [])),(4,.box 43 [vz,vi 0,vz,vz,vi 0,vz]),(6,.box 43 [.fr (.own 75) false 11 (flatten (map T_Item.ienc v1.Items)),vi v1.Packs,.fl (.own 3) 1 (map (int .i64) v1.Sent),.fl (.own 5) 1 (map (int .u8) s1233),vi s1234,.fl (.own 3) 1 (map (int .i64) v1.Done)]),(7,.box 39 [vi p_r.Kind,vb false,vs z0,vs z0,vz,vz,vb false,vs z0,vi 0,vi 0,vz,vi 0,vi p_r.Number,vi p_r.Offset,fb p_r.Data]),(8,vb s1239)]) ?_ ?_
           ·rintro s1239 h
            refine pt_inb ?_
            refine pt_sub (fs := [(3,.box 39 (T_Rec.c p_r [])),(4,.box 43 [vz,vi 0,vz,vz,vi 0,vz]),(6,.box 43 [.fr (.own 75) false 11 (flatten (map T_Item.ienc v1.Items)),vi v1.Packs,.fl (.own 3) 1 (map (int .i64) v1.Sent),.fl (.own 5) 1 (map (int .u8) s1233),vi s1234,.fl (.own 3) 1 (map (int .i64) v1.Done)]),(7,.box 39 [vi p_r.Kind,vb false,vs z0,vs z0,.fl .shr 3 (flatten (map T_Path.enc [])),fb [],vb false,vs z0,vi 0,vi 0,fi [],vi 0,vi p_r.Number,vi p_r.Offset,fb p_r.Data]),(8,vb s1239)]) (.same _ (.same _ (.same _ (.box _ _ (subs_cons (sub_refl _) (subs_cons (sub_refl _) (subs_cons (sub_refl _) (subs_cons (sub_refl _) (subs_cons (sub_nil_shr 3) (subs_cons (sub_nil_shr 1) (subs_cons (sub_refl _) (subs_cons (sub_refl _) (subs_cons (sub_refl _) (subs_cons (sub_refl _) (subs_cons (sub_nil_shr 1) (subs_cons (sub_refl _) (subs_cons (sub_refl _) (subs_cons (sub_refl _) (subs_cons (sub_refl _) (subs_nil)))))))))))))))) rfl (.same _ .nil))))) ?_
            exact hl1033 _ (zi h).symm
           ·intro u1240 h hl1241 hr1242
            refine cond_some h (fun hg42_1 h => ?_) (fun hg42_1 h => ?_)
            ·refine zg hn [_,_,_,_,_,(317,vb s1228),(318,vb true),(319,.ptr 6 3),(320,.same (.cell 6 3)),(321,vi (s1233.length : Int)),(322,vb (decide ((s1233.length : Int) ≤ 5000))),(323,vb (decide ((s1233.length : Int) ≤ 5000))),(8,vb (decide ((s1233.length : Int) ≤ 5000)))] [0,1,2,3,4] [0,1,2,3,12] [zq [4] 5 317,zq [5] 6 318,zq [6,2] 7 319,zq [6,7,2] 8 320,zq [6,8,2] 9 321,zq [6,9] 10 322,zq [6,10] 11 323,⟨[11],[4],[12],[(.slot 8)]⟩] [(_,_),(_,_),(_,_),(_,_),(_,_)] rfl ⟨z1 rfl,z8 hg42_1 rfl,zr' rfl (oF underlying43 rfl sz25),zr' rfl (oL underlying25 rfl),zr' rfl (op_len_fl _ _ _ underlying25 rfl (by decide) (map_len _)),zr' rfl (oB rfl rfl),z3 true rfl,zp rfl (LOp.drop [_] (op_assign _ _ _ _ rfl rfl)),zz⟩ ?_
             exact hl1241 _ (zi h).symm
            ·refine zg hn [_,_,_,_,_,(317,vb s1228),(318,vb false),(319,.v undef),(320,.v undef),(321,.v undef),(322,.v undef),(323,vb false),(8,vb false)] [0,1,2,3,4] [0,1,2,3,12] [zq [4] 5 317,zq [5] 6 318,zq [6] 7 319,zq [6] 8 320,zq [6] 9 321,zq [6] 10 322,zq [6] 11 323,⟨[11],[4],[12],[(.slot 8)]⟩] [(_,_),(_,_),(_,_),(_,_),(_,_)] rfl ⟨z1 rfl,z8 hg42_1 rfl,zt rfl,zt rfl,zt rfl,zt rfl,z3 false rfl,zp rfl (LOp.drop [_] (op_assign _ _ _ _ rfl rfl)),zz⟩ ?_
             exact hl1241 _ (zi h).symm
          ·intro u1235 h hl1236 hr1237
           refine zgg hn [_,_,_,_,_,(301,.ptr 3 13),(302,vi p_r.Offset),(303,vb (p_r.Offset == 0))] [0,1,2,3,4] [0,1,2,3,4,7] [zq [0] 5 301,zq [5,0] 6 302,zq [6] 7 303] [(_,_),(_,_),(_,_),(_,_),(_,_),(_,_)] rfl ⟨zp rfl (oF underlying39 rfl sz3),zp rfl (oL underlying3 rfl),z4 rfl rfl,zz⟩ ?_
           refine ht_cond _ rfl (fun hb1238 => ?_) (fun hb1238 => ?_)
           ·have h := cond_t hb1238 h
            obtain ⟨v255, hv255, h⟩ := zn h
            refine ht_anyR (by kernel_rfl) hn (El := (_ :: _ :: _ :: _ :: _ :: _ :: (304,.ptr 3 12) :: (305,vi p_r.Number) :: (306,.ptr 3 14) :: (307,fb p_r.Data) :: (308,.fl (.own 5) 1 (map (int .u8) v255)) :: (309,.ptr 6 4) :: (6,.box 43 [.fr (.own 75) false 11 (flatten (map T_Item.ienc v1.Items)),vi v1.Packs,.fl (.own 3) 1 (map (int .i64) v1.Sent),.fl (.own 5) 1 (map (int .u8) v1.Part),vi p_r.Number,.fl (.own 3) 1 (map (int .i64) v1.Done)]) :: (310,.ptr 6 3) :: (6,.box 43 [.fr (.own 75) false 11 (flatten (map T_Item.ienc v1.Items)),vi v1.Packs,.fl (.own 3) 1 (map (int .i64) v1.Sent),.fl (.own 5) 1 (map (int .u8) v255),vi p_r.Number,.fl (.own 3) 1 (map (int .i64) v1.Done)]) :: [])) (init := [0,1,2,3,4,5]) (fin := [0,1,14,3,4]) (sps := [zq [0] 6 304,zq [6,0] 7 305,zq [0] 8 306,zq [8,0] 9 307,zq [9] 10 308,zq [2] 11 309,⟨[11,7],[2],[12],[.cell 6 4]⟩,zq [12] 13 310,⟨[13],[10,12],[14],[.cell 6 3]⟩]) (es' := [(_,_),(_,_),(6,.box 43 [.fr (.own 75) false 11 (flatten (map T_Item.ienc v1.Items)),vi v1.Packs,.fl (.own 3) 1 (map (int .i64) v1.Sent),.fl (.own 5) 1 (map (int .u8) v255),vi p_r.Number,.fl (.own 3) 1 (map (int .i64) v1.Done)]),(_,_),(_,_)]) (by kernel_rfl) rfl rfl ⟨zp rfl (oF underlying39 rfl sz3),zp rfl (oL underlying3 rfl),zp rfl (oF underlying39 rfl sz25),zp rfl (oL underlying25 rfl),zp rfl (op_call _ _ 25 _ _ rfl call25 rfl (ok_wherrykeep_Twin p_r.Data _ hv255) rfl rfl),zp rfl (oF underlying43 rfl sz3),zp rfl (oS sz3 rfl),zp rfl (oF underlying43 rfl sz25),zp rfl (op_store_take _ _ _ _ _ _ _ _ sz25 rfl rfl rfl (zl rfl) rfl rfl),zz⟩ ?_
            exact hl1236 _ (zi h).symm
           ·have h := cond_f hb1238 h
            obtain ⟨v256, hv256, h⟩ := zn h
            refine zg hn [_,_,_,_,_,_,(311,.ptr 6 3),(312,.same (.cell 6 3)),(313,.ptr 3 14),(314,fb p_r.Data),(315,.fl (.own 5) 1 (map (int .u8) v256)),(6,.box 43 [.fr (.own 75) false 11 (flatten (map T_Item.ienc v1.Items)),vi v1.Packs,.fl (.own 3) 1 (map (int .i64) v1.Sent),.any,vi v1.Of,.fl (.own 3) 1 (map (int .i64) v1.Done)]),(316,.ptr 6 3),(6,.box 43 [.fr (.own 75) false 11 (flatten (map T_Item.ienc v1.Items)),vi v1.Packs,.fl (.own 3) 1 (map (int .i64) v1.Sent),.fl (.own 5) 1 (map (int .u8) v256),vi v1.Of,.fl (.own 3) 1 (map (int .i64) v1.Done)])] [0,1,2,3,4,5] [0,1,13,3,4] [zq [2] 6 311,zq [6,2] 7 312,zq [0] 8 313,zq [8,0] 9 314,⟨[7,9],[2],[11,10],[(.slot 315)]⟩,zq [11] 12 316,⟨[12],[7,10,11],[13],[.cell 6 3]⟩] [(_,_),(_,_),(_,_),(_,_),(_,_)] rfl ⟨zp rfl (oF underlying43 rfl sz25),zp rfl (oL underlying25 rfl),zp rfl (oF underlying39 rfl sz25),zp rfl (oL underlying25 rfl),zp rfl (op_app_cell _ _ _ _ _ _ el25 rfl rfl (zl rfl) rfl (map_len _) (map_len _) hv256 ((List.map_append).symm.trans (congrArg (map _) (app_eq hv256))) (Nat.ne_of_beq_eq_false rfl) rfl rfl),zp rfl (oF underlying43 rfl sz25),zp rfl (LOp.drop [_] (op_store_take _ _ _ _ _ _ _ _ sz25 rfl rfl rfl (zl rfl) rfl rfl)),zz⟩ ?_
            exact hl1236 _ (zi h).symm
         ·intro u1229 h hl1230 hr1231
          obtain ⟨v247, hv247, h⟩ := zn h
          refine cond_some h (fun hg38_3 h => ?_) (fun hg38_3 h => ?_)
          ·obtain ⟨v248, hv248, h⟩ := zn h
           refine cond_some h (fun hg38_11 h => ?_) (fun hg38_11 h => ?_)
           ·obtain ⟨v249, hv249, h⟩ := zn h
            refine cond_some h (fun hg38_17 h => ?_) (fun hg38_17 h => ?_)
            ·refine cond_some h (fun hg38_21 h => ?_) (fun hg38_21 h => ?_)
             ·refine zg hn (_::_::_::_::_::(264,.ptr 3 12)::(265,vi p_r.Number)::(266,vb v247)::(267,vb true)::(268,.ptr 2 5)::(269,fi s.Done)::(270,.ptr 3 12)::(271,vi p_r.Number)::(272,vb v248)::(273,vb (!v248))::(274,vb (!v248))::(275,vb true)::(276,.ptr 3 14)::(277,fb p_r.Data)::(278,vi (p_r.Data.length : Int))::(279,vb v249)::(280,vb v249)::(281,vb true)::(282,.ptr 3 13)::(283,vi p_r.Offset)::(284,vb (p_r.Offset == 0))::(285,vb true)::(286,.v undef)::(287,.v undef)::(288,.v undef)::(289,.v undef)::(290,.v undef)::(291,.v undef)::(292,.v undef)::(293,.v undef)::(294,.v undef)::(295,.v undef)::(296,.v undef)::(297,.v undef)::(298,.v undef)::(299,vb true)::(300,vb true)::(8,vb true)::[]) [0,1,2,3,4] [1,2,3,4,42] (zq [1] 5 264::zq [5,1] 6 265::zq [6] 7 266::zq [7] 8 267::zq [8,0] 9 268::zq [8,9,0] 10 269::zq [8,1] 11 270::zq [8,11,1] 12 271::zq [8,10,12] 13 272::zq [8,13] 14 273::zq [8,14] 15 274::zq [15] 16 275::zq [16,1] 17 276::zq [16,17,1] 18 277::zq [16,18] 19 278::zq [16,19] 20 279::zq [16,20] 21 280::zq [21] 22 281::zq [22,1] 23 282::zq [22,23,1] 24 283::zq [22,24] 25 284::zq [22,25] 26 285::zq [26] 27 286::zq [26] 28 287::zq [26] 29 288::zq [26] 30 289::zq [26] 31 290::zq [26] 32 291::zq [32] 33 292::zq [32] 34 293::zq [32] 35 294::zq [32] 36 295::zq [32] 37 296::zq [32] 38 297::zq [26] 39 298::zq [22,26] 40 299::zq [22,40] 41 300::zq [41] 42 8::[]) [(_,_),(_,_),(_,_),(_,_),(_,_)] rfl ⟨zp rfl (oF underlying39 rfl sz3),zp rfl (oL underlying3 rfl),zp rfl (op_call _ _ 30 _ _ rfl call30 rfl (ok_wherryref18_in p_r.Number 1 65535 _ hv247) rfl rfl),z8 hg38_3 rfl,zr' rfl (oF underlying43 rfl sz37),zr' rfl (oL underlying37 rfl),zr' rfl (oF underlying39 rfl sz3),zr' rfl (oL underlying3 rfl),zr' rfl (op_call _ _ 33 _ _ rfl call33 rfl (ok_wherryref18_has s.Done p_r.Number _ hv248) rfl rfl),zr' rfl (op_un _ _ _ _ rfl rfl),z3 true rfl,z8 hg38_11 rfl,zr' rfl (oF underlying39 rfl sz25),zr' rfl (oL underlying25 rfl),zr' rfl (op_len_fl _ _ _ underlying25 rfl (by decide) (map_len _)),zr' rfl (op_call _ _ 30 _ _ rfl call30 rfl (ok_wherryref18_in (p_r.Data.length : Int) 1 48 _ hv249) rfl rfl),z3 true rfl,z8 hg38_17 rfl,zr' rfl (oF underlying39 rfl sz3),zr' rfl (oL underlying3 rfl),zr' rfl (oB rfl rfl),zr' rfl (op_move _ _ _ _ (zb hg38_21) rfl),zf rfl,zf rfl,zf rfl,zf rfl,zf rfl,zf rfl,zu' rfl,zu' rfl,zu' rfl,zu' rfl,zu' rfl,zu' rfl,zf rfl,zr' rfl (op_pick _ _ true _ rfl rfl),z3 true rfl,z2 rfl,zz⟩ ?_
              exact hl1230 _ (zi h).symm
             ·refine cond_some h (fun hg38_27 h => ?_) (fun hg38_27 h => ?_)
              ·refine zg hn (_::_::_::_::_::(264,.ptr 3 12)::(265,vi p_r.Number)::(266,vb v247)::(267,vb true)::(268,.ptr 2 5)::(269,fi s.Done)::(270,.ptr 3 12)::(271,vi p_r.Number)::(272,vb v248)::(273,vb (!v248))::(274,vb (!v248))::(275,vb true)::(276,.ptr 3 14)::(277,fb p_r.Data)::(278,vi (p_r.Data.length : Int))::(279,vb v249)::(280,vb v249)::(281,vb true)::(282,.ptr 3 13)::(283,vi p_r.Offset)::(284,vb (p_r.Offset == 0))::(285,vb false)::(286,.ptr 2 4)::(287,vi s.Of)::(288,.ptr 3 12)::(289,vi p_r.Number)::(290,vb (s.Of == p_r.Number))::(291,vb true)::(292,.ptr 3 13)::(293,vi p_r.Offset)::(294,.ptr 2 3)::(295,fb s.Part)::(296,vi (s.Part.length : Int))::(297,vb (p_r.Offset == (s.Part.length : Int)))::(298,vb (p_r.Offset == (s.Part.length : Int)))::(299,vb (p_r.Offset == (s.Part.length : Int)))::(300,vb (p_r.Offset == (s.Part.length : Int)))::(8,vb (p_r.Offset == (s.Part.length : Int)))::[]) [0,1,2,3,4] [1,2,3,4,42] (zq [1] 5 264::zq [5,1] 6 265::zq [6] 7 266::zq [7] 8 267::zq [8,0] 9 268::zq [8,9,0] 10 269::zq [8,1] 11 270::zq [8,11,1] 12 271::zq [8,10,12] 13 272::zq [8,13] 14 273::zq [8,14] 15 274::zq [15] 16 275::zq [16,1] 17 276::zq [16,17,1] 18 277::zq [16,18] 19 278::zq [16,19] 20 279::zq [16,20] 21 280::zq [21] 22 281::zq [22,1] 23 282::zq [22,23,1] 24 283::zq [22,24] 25 284::zq [22,25] 26 285::zq [26,0] 27 286::zq [26,27,0] 28 287::zq [26,1] 29 288::zq [26,29,1] 30 289::zq [26,28,30] 31 290::zq [26,31] 32 291::zq [32,1] 33 292::zq [32,33,1] 34 293::zq [32,0] 35 294::zq [32,35,0] 36 295::zq [32,36] 37 296::zq [32,34,37] 38 297::zq [26,32,38] 39 298::zq [22,26,39] 40 299::zq [22,40] 41 300::zq [41] 42 8::[]) [(_,_),(_,_),(_,_),(_,_),(_,_)] rfl ⟨zp rfl (oF underlying39 rfl sz3),zp rfl (oL underlying3 rfl),zp rfl (op_call _ _ 30 _ _ rfl call30 rfl (ok_wherryref18_in p_r.Number 1 65535 _ hv247) rfl rfl),z8 hg38_3 rfl,zr' rfl (oF underlying43 rfl sz37),zr' rfl (oL underlying37 rfl),zr' rfl (oF underlying39 rfl sz3),zr' rfl (oL underlying3 rfl),zr' rfl (op_call _ _ 33 _ _ rfl call33 rfl (ok_wherryref18_has s.Done p_r.Number _ hv248) rfl rfl),zr' rfl (op_un _ _ _ _ rfl rfl),z3 true rfl,z8 hg38_11 rfl,zr' rfl (oF underlying39 rfl sz25),zr' rfl (oL underlying25 rfl),zr' rfl (op_len_fl _ _ _ underlying25 rfl (by decide) (map_len _)),zr' rfl (op_call _ _ 30 _ _ rfl call30 rfl (ok_wherryref18_in (p_r.Data.length : Int) 1 48 _ hv249) rfl rfl),z3 true rfl,z8 hg38_17 rfl,zr' rfl (oF underlying39 rfl sz3),zr' rfl (oL underlying3 rfl),zr' rfl (oB rfl rfl),zr' rfl (op_move _ _ _ _ (zb hg38_21) rfl),zr' rfl (oF underlying43 rfl sz3),zr' rfl (oL underlying3 rfl),zr' rfl (oF underlying39 rfl sz3),zr' rfl (oL underlying3 rfl),zr' rfl (oB rfl rfl),zr' rfl (op_move _ _ _ _ (zb hg38_27) rfl),zr' rfl (oF underlying39 rfl sz3),zr' rfl (oL underlying3 rfl),zr' rfl (oF underlying43 rfl sz25),zr' rfl (oL underlying25 rfl),zr' rfl (op_len_fl _ _ _ underlying25 rfl (by decide) (map_len _)),zr' rfl (oB rfl rfl),zr' rfl (op_pick _ _ true _ rfl rfl),zr' rfl (op_pick _ _ false _ rfl rfl),z3 true rfl,z2 rfl,zz⟩ ?_
               exact hl1230 _ (zi h).symm
              ·refine zg hn (_::_::_::_::_::(264,.ptr 3 12)::(265,vi p_r.Number)::(266,vb v247)::(267,vb true)::(268,.ptr 2 5)::(269,fi s.Done)::(270,.ptr 3 12)::(271,vi p_r.Number)::(272,vb v248)::(273,vb (!v248))::(274,vb (!v248))::(275,vb true)::(276,.ptr 3 14)::(277,fb p_r.Data)::(278,vi (p_r.Data.length : Int))::(279,vb v249)::(280,vb v249)::(281,vb true)::(282,.ptr 3 13)::(283,vi p_r.Offset)::(284,vb (p_r.Offset == 0))::(285,vb false)::(286,.ptr 2 4)::(287,vi s.Of)::(288,.ptr 3 12)::(289,vi p_r.Number)::(290,vb (s.Of == p_r.Number))::(291,vb false)::(292,.v undef)::(293,.v undef)::(294,.v undef)::(295,.v undef)::(296,.v undef)::(297,.v undef)::(298,vb false)::(299,vb false)::(300,vb false)::(8,vb false)::[]) [0,1,2,3,4] [1,2,3,4,42] (zq [1] 5 264::zq [5,1] 6 265::zq [6] 7 266::zq [7] 8 267::zq [8,0] 9 268::zq [8,9,0] 10 269::zq [8,1] 11 270::zq [8,11,1] 12 271::zq [8,10,12] 13 272::zq [8,13] 14 273::zq [8,14] 15 274::zq [15] 16 275::zq [16,1] 17 276::zq [16,17,1] 18 277::zq [16,18] 19 278::zq [16,19] 20 279::zq [16,20] 21 280::zq [21] 22 281::zq [22,1] 23 282::zq [22,23,1] 24 283::zq [22,24] 25 284::zq [22,25] 26 285::zq [26,0] 27 286::zq [26,27,0] 28 287::zq [26,1] 29 288::zq [26,29,1] 30 289::zq [26,28,30] 31 290::zq [26,31] 32 291::zq [32] 33 292::zq [32] 34 293::zq [32] 35 294::zq [32] 36 295::zq [32] 37 296::zq [32] 38 297::zq [26,32] 39 298::zq [22,26,39] 40 299::zq [22,40] 41 300::zq [41] 42 8::[]) [(_,_),(_,_),(_,_),(_,_),(_,_)] rfl ⟨zp rfl (oF underlying39 rfl sz3),zp rfl (oL underlying3 rfl),zp rfl (op_call _ _ 30 _ _ rfl call30 rfl (ok_wherryref18_in p_r.Number 1 65535 _ hv247) rfl rfl),z8 hg38_3 rfl,zr' rfl (oF underlying43 rfl sz37),zr' rfl (oL underlying37 rfl),zr' rfl (oF underlying39 rfl sz3),zr' rfl (oL underlying3 rfl),zr' rfl (op_call _ _ 33 _ _ rfl call33 rfl (ok_wherryref18_has s.Done p_r.Number _ hv248) rfl rfl),zr' rfl (op_un _ _ _ _ rfl rfl),z3 true rfl,z8 hg38_11 rfl,zr' rfl (oF underlying39 rfl sz25),zr' rfl (oL underlying25 rfl),zr' rfl (op_len_fl _ _ _ underlying25 rfl (by decide) (map_len _)),zr' rfl (op_call _ _ 30 _ _ rfl call30 rfl (ok_wherryref18_in (p_r.Data.length : Int) 1 48 _ hv249) rfl rfl),z3 true rfl,z8 hg38_17 rfl,zr' rfl (oF underlying39 rfl sz3),zr' rfl (oL underlying3 rfl),zr' rfl (oB rfl rfl),zr' rfl (op_move _ _ _ _ (zb hg38_21) rfl),zr' rfl (oF underlying43 rfl sz3),zr' rfl (oL underlying3 rfl),zr' rfl (oF underlying39 rfl sz3),zr' rfl (oL underlying3 rfl),zr' rfl (oB rfl rfl),zr' rfl (op_move _ _ _ _ (zb hg38_27) rfl),zt rfl,zt rfl,zt rfl,zt rfl,zt rfl,zt rfl,zr' rfl (op_pick _ _ false _ rfl rfl),zr' rfl (op_pick _ _ false _ rfl rfl),z3 true rfl,z2 rfl,zz⟩ ?_
               exact hl1230 _ (zi h).symm
            ·refine zg hn (_::_::_::_::_::(264,.ptr 3 12)::(265,vi p_r.Number)::(266,vb v247)::(267,vb true)::(268,.ptr 2 5)::(269,fi s.Done)::(270,.ptr 3 12)::(271,vi p_r.Number)::(272,vb v248)::(273,vb (!v248))::(274,vb (!v248))::(275,vb true)::(276,.ptr 3 14)::(277,fb p_r.Data)::(278,vi (p_r.Data.length : Int))::(279,vb v249)::(280,vb v249)::(281,vb false)::(282,.v undef)::(283,.v undef)::(284,.v undef)::(285,.v undef)::(286,.v undef)::(287,.v undef)::(288,.v undef)::(289,.v undef)::(290,.v undef)::(291,.v undef)::(292,.v undef)::(293,.v undef)::(294,.v undef)::(295,.v undef)::(296,.v undef)::(297,.v undef)::(298,.v undef)::(299,.v undef)::(300,vb false)::(8,vb false)::[]) [0,1,2,3,4] [1,2,3,4,42] (zq [1] 5 264::zq [5,1] 6 265::zq [6] 7 266::zq [7] 8 267::zq [8,0] 9 268::zq [8,9,0] 10 269::zq [8,1] 11 270::zq [8,11,1] 12 271::zq [8,10,12] 13 272::zq [8,13] 14 273::zq [8,14] 15 274::zq [15] 16 275::zq [16,1] 17 276::zq [16,17,1] 18 277::zq [16,18] 19 278::zq [16,19] 20 279::zq [16,20] 21 280::zq [21] 22 281::zq [22] 23 282::zq [22] 24 283::zq [22] 25 284::zq [22] 26 285::zq [26] 27 286::zq [26] 28 287::zq [26] 29 288::zq [26] 30 289::zq [26] 31 290::zq [26] 32 291::zq [32] 33 292::zq [32] 34 293::zq [32] 35 294::zq [32] 36 295::zq [32] 37 296::zq [32] 38 297::zq [26] 39 298::zq [22] 40 299::zq [22] 41 300::zq [41] 42 8::[]) [(_,_),(_,_),(_,_),(_,_),(_,_)] rfl ⟨zp rfl (oF underlying39 rfl sz3),zp rfl (oL underlying3 rfl),zp rfl (op_call _ _ 30 _ _ rfl call30 rfl (ok_wherryref18_in p_r.Number 1 65535 _ hv247) rfl rfl),z8 hg38_3 rfl,zr' rfl (oF underlying43 rfl sz37),zr' rfl (oL underlying37 rfl),zr' rfl (oF underlying39 rfl sz3),zr' rfl (oL underlying3 rfl),zr' rfl (op_call _ _ 33 _ _ rfl call33 rfl (ok_wherryref18_has s.Done p_r.Number _ hv248) rfl rfl),zr' rfl (op_un _ _ _ _ rfl rfl),z3 true rfl,z8 hg38_11 rfl,zr' rfl (oF underlying39 rfl sz25),zr' rfl (oL underlying25 rfl),zr' rfl (op_len_fl _ _ _ underlying25 rfl (by decide) (map_len _)),zr' rfl (op_call _ _ 30 _ _ rfl call30 rfl (ok_wherryref18_in (p_r.Data.length : Int) 1 48 _ hv249) rfl rfl),z3 true rfl,z8 hg38_17 rfl,zt rfl,zt rfl,zt rfl,zt rfl,zu' rfl,zu' rfl,zu' rfl,zu' rfl,zu' rfl,zu' rfl,zu' rfl,zu' rfl,zu' rfl,zu' rfl,zu' rfl,zu' rfl,zu' rfl,zt rfl,z3 false rfl,z2 rfl,zz⟩ ?_
             exact hl1230 _ (zi h).symm
           ·refine zg hn (_::_::_::_::_::(264,.ptr 3 12)::(265,vi p_r.Number)::(266,vb v247)::(267,vb true)::(268,.ptr 2 5)::(269,fi s.Done)::(270,.ptr 3 12)::(271,vi p_r.Number)::(272,vb v248)::(273,vb (!v248))::(274,vb (!v248))::(275,vb false)::(276,.v undef)::(277,.v undef)::(278,.v undef)::(279,.v undef)::(280,vb false)::(281,vb false)::(282,.v undef)::(283,.v undef)::(284,.v undef)::(285,.v undef)::(286,.v undef)::(287,.v undef)::(288,.v undef)::(289,.v undef)::(290,.v undef)::(291,.v undef)::(292,.v undef)::(293,.v undef)::(294,.v undef)::(295,.v undef)::(296,.v undef)::(297,.v undef)::(298,.v undef)::(299,.v undef)::(300,vb false)::(8,vb false)::[]) [0,1,2,3,4] [1,2,3,4,42] (zq [1] 5 264::zq [5,1] 6 265::zq [6] 7 266::zq [7] 8 267::zq [8,0] 9 268::zq [8,9,0] 10 269::zq [8,1] 11 270::zq [8,11,1] 12 271::zq [8,10,12] 13 272::zq [8,13] 14 273::zq [8,14] 15 274::zq [15] 16 275::zq [16] 17 276::zq [16] 18 277::zq [16] 19 278::zq [16] 20 279::zq [16] 21 280::zq [21] 22 281::zq [22] 23 282::zq [22] 24 283::zq [22] 25 284::zq [22] 26 285::zq [26] 27 286::zq [26] 28 287::zq [26] 29 288::zq [26] 30 289::zq [26] 31 290::zq [26] 32 291::zq [32] 33 292::zq [32] 34 293::zq [32] 35 294::zq [32] 36 295::zq [32] 37 296::zq [32] 38 297::zq [26] 39 298::zq [22] 40 299::zq [22] 41 300::zq [41] 42 8::[]) [(_,_),(_,_),(_,_),(_,_),(_,_)] rfl ⟨zp rfl (oF underlying39 rfl sz3),zp rfl (oL underlying3 rfl),zp rfl (op_call _ _ 30 _ _ rfl call30 rfl (ok_wherryref18_in p_r.Number 1 65535 _ hv247) rfl rfl),z8 hg38_3 rfl,zr' rfl (oF underlying43 rfl sz37),zr' rfl (oL underlying37 rfl),zr' rfl (oF underlying39 rfl sz3),zr' rfl (oL underlying3 rfl),zr' rfl (op_call _ _ 33 _ _ rfl call33 rfl (ok_wherryref18_has s.Done p_r.Number _ hv248) rfl rfl),zr' rfl (op_un _ _ _ _ rfl rfl),z3 true rfl,z8 hg38_11 rfl,zt rfl,zt rfl,zt rfl,zt rfl,z3 false rfl,z1 rfl,zt rfl,zt rfl,zt rfl,zt rfl,zu' rfl,zu' rfl,zu' rfl,zu' rfl,zu' rfl,zu' rfl,zu' rfl,zu' rfl,zu' rfl,zu' rfl,zu' rfl,zu' rfl,zu' rfl,zt rfl,z3 false rfl,z2 rfl,zz⟩ ?_
            exact hl1230 _ (zi h).symm
          ·refine zg hn (_::_::_::_::_::(264,.ptr 3 12)::(265,vi p_r.Number)::(266,vb v247)::(267,vb false)::(268,.v undef)::(269,.v undef)::(270,.v undef)::(271,.v undef)::(272,.v undef)::(273,.v undef)::(274,vb false)::(275,vb false)::(276,.v undef)::(277,.v undef)::(278,.v undef)::(279,.v undef)::(280,vb false)::(281,vb false)::(282,.v undef)::(283,.v undef)::(284,.v undef)::(285,.v undef)::(286,.v undef)::(287,.v undef)::(288,.v undef)::(289,.v undef)::(290,.v undef)::(291,.v undef)::(292,.v undef)::(293,.v undef)::(294,.v undef)::(295,.v undef)::(296,.v undef)::(297,.v undef)::(298,.v undef)::(299,.v undef)::(300,vb false)::(8,vb false)::[]) [0,1,2,3,4] [1,2,3,4,42] (zq [1] 5 264::zq [5,1] 6 265::zq [6] 7 266::zq [7] 8 267::zq [8] 9 268::zq [8] 10 269::zq [8] 11 270::zq [8] 12 271::zq [8] 13 272::zq [8] 14 273::zq [8] 15 274::zq [15] 16 275::zq [16] 17 276::zq [16] 18 277::zq [16] 19 278::zq [16] 20 279::zq [16] 21 280::zq [21] 22 281::zq [22] 23 282::zq [22] 24 283::zq [22] 25 284::zq [22] 26 285::zq [26] 27 286::zq [26] 28 287::zq [26] 29 288::zq [26] 30 289::zq [26] 31 290::zq [26] 32 291::zq [32] 33 292::zq [32] 34 293::zq [32] 35 294::zq [32] 36 295::zq [32] 37 296::zq [32] 38 297::zq [26] 39 298::zq [22] 40 299::zq [22] 41 300::zq [41] 42 8::[]) [(_,_),(_,_),(_,_),(_,_),(_,_)] rfl ⟨zp rfl (oF underlying39 rfl sz3),zp rfl (oL underlying3 rfl),zp rfl (op_call _ _ 30 _ _ rfl call30 rfl (ok_wherryref18_in p_r.Number 1 65535 _ hv247) rfl rfl),z8 hg38_3 rfl,zt rfl,zt rfl,zt rfl,zt rfl,zt rfl,zt rfl,z3 false rfl,z1 rfl,zt rfl,zt rfl,zt rfl,zt rfl,z3 false rfl,z1 rfl,zt rfl,zt rfl,zt rfl,zt rfl,zu' rfl,zu' rfl,zu' rfl,zu' rfl,zu' rfl,zu' rfl,zu' rfl,zu' rfl,zu' rfl,zu' rfl,zu' rfl,zu' rfl,zu' rfl,zt rfl,z3 false rfl,z2 rfl,zz⟩ ?_
           exact hl1230 _ (zi h).symm
        ·have h := cond_f hb1227 h
         refine zgg hn [_,_,_,_,_,_,_,_,(325,vb (p_r.Kind == 6)),(324,vb (p_r.Kind == 6))] [0,1,2,3,4,5,6,7] [0,1,2,3,4,5,9] [zq [6] 8 325,zq [8] 9 324] [(_,_),(_,_),(_,_),(_,_),(_,_),(_,_),(_,_)] rfl ⟨z4 rfl rfl,z2 rfl,zz⟩ ?_
         refine ht_cond _ rfl (fun hb1243 => ?_) (fun hb1243 => ?_)
         ·have h := cond_t hb1243 h
          refine zgg hn [_,_,_,_,_,_,_,(326,.ptr 3 12),(327,vi p_r.Number),(328,.ptr 7 12),(7,.box 39 [vi p_r.Kind,vb false,vs z0,vs z0,vz,vz,vb false,vs z0,vi 0,vi 0,vz,vi 0,vi p_r.Number,vi 0,vz])] [0,1,2,3,4,5,6] [0,1,2,3,10] [zq [1] 7 326,zq [7,1] 8 327,zq [4] 9 328,⟨[9,8],[4],[10],[.cell 7 12]⟩] [(_,_),(_,_),(_,_),(_,_),(_,_)] rfl ⟨zp rfl (oF underlying39 rfl sz3),zp rfl (oL underlying3 rfl),zp rfl (oF underlying39 rfl sz3),zp rfl (oS sz3 rfl),zz⟩ ?_
          refine ht_seq ?_
          refine ht_joinS h (fun (s1244 : Bool) => [(2,.box 43 (T_Spool.c s [])),(3,.box 39 (T_Rec.c p_r [])),(4,.box 43 [vz,vi 0,vz,vz,vi 0,vz]),(6,.box 43 [.fr (.own 75) false 11 (flatten (map T_Item.ienc v1.Items)),vi v1.Packs,.fl (.own 3) 1 (map (int .i64) v1.Sent),.fl (.own 5) 1 (map (int .u8) v1.Part),vi v1.Of,.fl (.own 3) 1 (map (int .i64) v1.Done)]),(7,.box 39 [vi p_r.Kind,vb false,vs z0,vs z0,vz,vz,vb false,vs z0,vi 0,vi 0,vz,vi 0,vi p_r.Number,vi 0,vz]),(8,vb s1244)]) ?_ ?_
          ·rintro s1244 h
           refine pt_then ?_
           refine zgg hn [_,_,_,_,_,_,(12,vz)] [0,1,2,3,4,5] [0,1,2,3,4,5,6] [zq [] 6 12] [(_,_),(_,_),(_,_),(_,_),(_,_),(_,_),(_,_)] rfl ⟨z2 rfl,zz⟩ ?_
           refine zgg hn [_,_,_,_,_,_,_,(13,vb false)] [0,1,2,3,4,5,6] [0,1,2,3,4,5,6,7] [zq [] 7 13] [(_,_),(_,_),(_,_),(_,_),(_,_),(_,_),(_,_),(_,_)] rfl ⟨z2 rfl,zz⟩ ?_
           refine ht_seq ?_
           refine zgg hn [_,_,_,_,_,_,_,_,(14,vi 0)] [0,1,2,3,4,5,6,7] [0,1,2,3,4,5,6,7,8] [zq [] 8 14] [(_,_),(_,_),(_,_),(_,_),(_,_),(_,_),(_,_),(_,_),(_,_)] rfl ⟨z2 rfl,zz⟩ ?_
           refine ht_sub (fs := [(2,.box 43 (T_Spool.c s [])),(3,.box 39 (T_Rec.c p_r [])),(4,.box 43 [vz,vi 0,vz,vz,vi 0,vz]),(6,.box 43 [.fr (.own 75) false 11 (flatten (map T_Item.ienc v1.Items)),vi v1.Packs,.fl (.own 3) 1 (map (int .i64) v1.Sent),.fl (.own 5) 1 (map (int .u8) v1.Part),vi v1.Of,.fl (.own 3) 1 (map (int .i64) v1.Done)]),(7,.box 39 [vi p_r.Kind,vb false,vs z0,vs z0,vz,vz,vb false,vs z0,vi 0,vi 0,vz,vi 0,vi p_r.Number,vi 0,vz]),(8,vb s1244),(12,.fl (.own 3) 1 (map (int .i64) [])),(13,vb false),(14,vi 0)]) (.same _ (.same _ (.same _ (.same _ (.same _ (.same _ (.sub _ (sub_nil 3 1) rfl (.same _ (.same _ .nil))))))))) ?_
           refine ht_loopS h (fun ((s1283,s1284,s1285) : (List Int) × Bool × Int) => [(2,.box 43 (T_Spool.c s [])),(3,.box 39 (T_Rec.c p_r [])),(4,.box 43 [vz,vi 0,vz,vz,vi 0,vz]),(6,.box 43 [.fr (.own 75) false 11 (flatten (map T_Item.ienc v1.Items)),vi v1.Packs,.fl (.own 3) 1 (map (int .i64) v1.Sent),.fl (.own 5) 1 (map (int .u8) v1.Part),vi v1.Of,.fl (.own 3) 1 (map (int .i64) v1.Done)]),(7,.box 39 [vi p_r.Kind,vb false,vs z0,vs z0,vz,vz,vb false,vs z0,vi 0,vi 0,vz,vi 0,vi p_r.Number,vi 0,vz]),(8,vb s1244),(12,.fl (.own 3) 1 (map (int .i64) s1283)),(13,vb s1284),(14,vi s1285)]) (fun ((s1302,s1303) : (List Int) × Bool) => [(2,.box 43 (T_Spool.c s [])),(3,.box 39 (T_Rec.c p_r [])),(4,.box 43 [vz,vi 0,vz,vz,vi 0,vz]),(6,.box 43 [.fr (.own 75) false 11 (flatten (map T_Item.ienc v1.Items)),vi v1.Packs,.fl (.own 3) 1 (map (int .i64) v1.Sent),.fl (.own 5) 1 (map (int .u8) v1.Part),vi v1.Of,.fl (.own 3) 1 (map (int .i64) v1.Done)]),(7,.box 39 [vi p_r.Kind,vb false,vs z0,vs z0,vz,vz,vb false,vs z0,vi 0,vi 0,vz,vi 0,vi p_r.Number,vi 0,vz]),(8,vb s1244),(12,.fl (.own 3) 1 (map (int .i64) s1302)),(13,vb s1303)]) ?_ ?_
           ·rintro ⟨s1302, s1303⟩ h
            refine pt_then (ht_seq ?_)
            refine ht_joinS h (fun (s1327 : (List Int)) => [(2,.box 43 (T_Spool.c s [])),(3,.box 39 (T_Rec.c p_r [])),(4,.box 43 [vz,vi 0,vz,vz,vi 0,vz]),(6,.box 43 [.fr (.own 75) false 11 (flatten (map T_Item.ienc v1.Items)),vi v1.Packs,.fl (.own 3) 1 (map (int .i64) v1.Sent),.fl (.own 5) 1 (map (int .u8) v1.Part),vi v1.Of,.fl (.own 3) 1 (map (int .i64) v1.Done)]),(7,.box 39 [vi p_r.Kind,vb false,vs z0,vs z0,vz,vz,vb false,vs z0,vi 0,vi 0,vz,vi 0,vi p_r.Number,vi 0,vz]),(8,vb s1244),(12,.fl (.own 3) 1 (map (int .i64) s1327))]) ?_ ?_
            ·rintro s1327 h
             refine pt_then ?_
             refine zgg hn [_,_,_,_,_,_,_,(379,.fl (.own 3) 1 (map (int .i64) s1327)),(380,.ptr 6 5),(6,.box 43 [.fr (.own 75) false 11 (flatten (map T_Item.ienc v1.Items)),vi v1.Packs,.fl (.own 3) 1 (map (int .i64) v1.Sent),.fl (.own 5) 1 (map (int .u8) v1.Part),vi v1.Of,.fl (.own 3) 1 (map (int .i64) s1327)])] [0,1,2,3,4,5,6] [0,1,2,9,4,5] [⟨[],[6],[7],[(.slot 379)]⟩,zq [3] 8 380,⟨[8],[7,3],[9],[.cell 6 5]⟩] [(_,_),(_,_),(_,_),(_,_),(_,_),(_,_)] rfl ⟨zp rfl (op_move_take _ _ _ _ rfl),zp rfl (oF underlying43 rfl sz37),zp rfl (op_store_take _ _ _ _ _ _ _ _ sz37 rfl rfl rfl (zl rfl) rfl rfl),zz⟩ ?_
             refine zgg hn [_,_,_,_,_,_,(381,.ptr 2 4),(382,vi s.Of),(383,.ptr 3 12),(384,vi p_r.Number),(385,vb (s.Of == p_r.Number))] [0,1,2,3,4,5] [1,2,3,4,5,10] [zq [0] 6 381,zq [6,0] 7 382,zq [1] 8 383,zq [8,1] 9 384,zq [7,9] 10 385] [(_,_),(_,_),(_,_),(_,_),(_,_),(_,_)] rfl ⟨zp rfl (oF underlying43 rfl sz3),zp rfl (oL underlying3 rfl),zp rfl (oF underlying39 rfl sz3),zp rfl (oL underlying3 rfl),z4 rfl rfl,zz⟩ ?_
             refine ht_cond _ rfl (fun hb1332 => ?_) (fun hb1332 => ?_)
             ·have h := cond_t hb1332 h
              refine zg hn [_,_,_,_,_,_,(386,.ptr 6 4),(6,.box 43 [.fr (.own 75) false 11 (flatten (map T_Item.ienc v1.Items)),vi v1.Packs,.fl (.own 3) 1 (map (int .i64) v1.Sent),.fl (.own 5) 1 (map (int .u8) v1.Part),vi (-1),.fl (.own 3) 1 (map (int .i64) s1327)]),(387,.ptr 6 3),(6,.box 43 [.fr (.own 75) false 11 (flatten (map T_Item.ienc v1.Items)),vi v1.Packs,.fl (.own 3) 1 (map (int .i64) v1.Sent),vz,vi (-1),.fl (.own 3) 1 (map (int .i64) s1327)])] [0,1,2,3,4,5] [0,1,9,3,4] [zq [2] 6 386,⟨[6],[2],[7],[.cell 6 4]⟩,zq [7] 8 387,⟨[8],[7],[9],[.cell 6 3]⟩] [(_,_),(_,_),(_,_),(_,_),(_,_)] rfl ⟨zp rfl (oF underlying43 rfl sz3),zp rfl (oS sz3 rfl),zp rfl (oF underlying43 rfl sz25),zp rfl (oS sz25 rfl),zz⟩ ?_
              refine pt_inb ?_
              refine pt_sub (fs := [(3,.box 39 (T_Rec.c p_r [])),(4,.box 43 [vz,vi 0,vz,vz,vi 0,vz]),(6,.box 43 [.fr (.own 75) false 11 (flatten (map T_Item.ienc v1.Items)),vi v1.Packs,.fl (.own 3) 1 (map (int .i64) v1.Sent),.fl (.own 5) 1 (map (int .u8) []),vi (-1),.fl (.own 3) 1 (map (int .i64) s1327)]),(7,.box 39 [vi p_r.Kind,vb false,vs z0,vs z0,.fl .shr 3 (flatten (map T_Path.enc [])),fb [],vb false,vs z0,vi 0,vi 0,fi [],vi 0,vi p_r.Number,vi 0,fb []]),(8,vb s1244)]) (.same _ (.same _ (.box _ _ (subs_cons (sub_refl _) (subs_cons (sub_refl _) (subs_cons (sub_refl _) (subs_cons (sub_nil 5 1) (subs_cons (sub_refl _) (subs_cons (sub_refl _) (subs_nil))))))) rfl (.box _ _ (subs_cons (sub_refl _) (subs_cons (sub_refl _) (subs_cons (sub_refl _) (subs_cons (sub_refl _) (subs_cons (sub_nil_shr 3) (subs_cons (sub_nil_shr 1) (subs_cons (sub_refl _) (subs_cons (sub_refl _) (subs_cons (sub_refl _) (subs_cons (sub_refl _) (subs_cons (sub_nil_shr 1) (subs_cons (sub_refl _) (subs_cons (sub_refl _) (subs_cons (sub_refl _) (subs_cons (sub_nil_shr 1) (subs_nil)))))))))))))))) rfl (.same _ .nil))))) ?_
              exact hl1033 _ (zi h).symm
             ·have h := cond_f hb1332 h
              refine ht_skip ?_
              refine pt_inb ?_
              refine pt_pick [0,1,2,3,4] (by kernel_rfl) (es' := [(_,_),(_,_),(_,_),(_,_),(_,_)]) rfl ?_
              refine pt_sub (fs := [(3,.box 39 (T_Rec.c p_r [])),(4,.box 43 [vz,vi 0,vz,vz,vi 0,vz]),(6,.box 43 [.fr (.own 75) false 11 (flatten (map T_Item.ienc v1.Items)),vi v1.Packs,.fl (.own 3) 1 (map (int .i64) v1.Sent),.fl (.own 5) 1 (map (int .u8) v1.Part),vi v1.Of,.fl (.own 3) 1 (map (int .i64) s1327)]),(7,.box 39 [vi p_r.Kind,vb false,vs z0,vs z0,.fl .shr 3 (flatten (map T_Path.enc [])),fb [],vb false,vs z0,vi 0,vi 0,fi [],vi 0,vi p_r.Number,vi 0,fb []]),(8,vb s1244)]) (.same _ (.same _ (.same _ (.box _ _ (subs_cons (sub_refl _) (subs_cons (sub_refl _) (subs_cons (sub_refl _) (subs_cons (sub_refl _) (subs_cons (sub_nil_shr 3) (subs_cons (sub_nil_shr 1) (subs_cons (sub_refl _) (subs_cons (sub_refl _) (subs_cons (sub_refl _) (subs_cons (sub_refl _) (subs_cons (sub_nil_shr 1) (subs_cons (sub_refl _) (subs_cons (sub_refl _) (subs_cons (sub_refl _) (subs_cons (sub_nil_shr 1) (subs_nil)))))))))))))))) rfl (.same _ .nil))))) ?_
              exact hl1033 _ (zi h).symm
            ·intro u1328 h hl1329 hr1330
             refine zgg hn [_,_,_,_,_,_,_,_,(372,vb s1303),(373,vb (!s1303))] [0,1,2,3,4,5,6,7] [0,1,2,3,4,5,6,9] [zq [7] 8 372,zq [8] 9 373] [(_,_),(_,_),(_,_),(_,_),(_,_),(_,_),(_,_),(_,_)] rfl ⟨z1 rfl,zp rfl (op_un _ _ _ _ rfl rfl),zz⟩ ?_
             refine ht_cond _ rfl (fun hb1331 => ?_) (fun hb1331 => ?_)
             ·have h := cond_t hb1331 h
              obtain ⟨v360, hv360, h⟩ := zn h
              refine zg hn (_::_::_::_::_::_::_::_::(374,.fl (.own 3) 1 (map (int .i64) s1302))::(375,.ptr 3 12)::(376,vi p_r.Number)::(377,.fl (.own 3) 1 (map (int .i64) [p_r.Number]))::(378,.fl (.own 3) 1 (map (int .i64) v360))::(374,.any)::(12,.fl (.own 3) 1 (map (int .i64) v360))::[]) [0,1,2,3,4,5,6,7] [0,1,2,3,4,5,14] [⟨[],[6],[8],[(.slot 374)]⟩,zq [1] 9 375,zq [9,1] 10 376,zq [10] 11 377,⟨[11],[8],[13,12],[(.slot 378)]⟩,⟨[],[12],[14],[(.slot 12)]⟩] [(_,_),(_,_),(_,_),(_,_),(_,_),(_,_),(_,_)] rfl ⟨zp rfl (op_move_take _ _ _ _ rfl),zp rfl (oF underlying39 rfl sz3),zp rfl (oL underlying3 rfl),zp rfl (op_buildSlice _ _ 1 (.int .i64 0) (map (int .i64) [p_r.Number]) [(0, .int .i64 p_r.Number)] underlying37 sz3 zr3 (fun _ V w o a hv hes => by have e0 := rd_v hv hes (x := .tmp 376) rfl; simp only [List.map_toArray, List.map_cons, List.map_nil, e0]; try rfl) (litfill (by simp [Instr.fill, Value.cells]; rfl) (by simp [List.range, List.range.loop] <;> rfl)) (by simp [Value.oneCell']) rfl (by decide) (by decide) (by decide)),zp rfl (op_app _ _ _ _ _ el37 rfl rfl (map_len _) (map_len _) hv360 ((List.map_append).symm.trans (congrArg (map _) (app_eq hv360)))),zp rfl (op_assign_take _ _ _ _ rfl),zz⟩ ?_
              exact hl1329 _ (zi h).symm
             ·have h := cond_f hb1331 h
              refine ht_skip ?_
              refine pt_pick [0,1,2,3,4,5,6] (by kernel_rfl) (es' := [(_,_),(_,_),(_,_),(_,_),(_,_),(_,_),(_,_)]) rfl ?_
              exact hl1329 _ (zi h).symm
           ·rintro u1304 hl1305 hr1306 ⟨s1283, s1284, s1285⟩ rr1309 h ho1307
            refine ht_seq ?_
            refine zgg hn [_,_,_,_,_,_,_,_,_,(340,vi s1285),(341,.ptr 2 5),(342,fi s.Done),(343,vi (s.Done.length : Int)),(344,vb (decide (s1285 < (s.Done.length : Int))))] [0,1,2,3,4,5,6,7,8] [0,1,2,3,4,5,6,7,8,13] [zq [8] 9 340,zq [0] 10 341,zq [10,0] 11 342,zq [11] 12 343,zq [9,12] 13 344] [(_,_),(_,_),(_,_),(_,_),(_,_),(_,_),(_,_),(_,_),(_,_),(_,_)] rfl ⟨z1 rfl,zp rfl (oF underlying43 rfl sz37),zp rfl (oL underlying37 rfl),zp rfl (op_len_fl _ _ _ underlying37 rfl (by decide) (map_len _)),z4 rfl rfl,zz⟩ ?_
            refine ht_cond _ rfl (fun hb1310 => ?_) (fun hb1310 => ?_)
            ·have h := cond_t hb1310 h
             refine ht_skip ?_
             refine pt_then (ht_seq ?_)
             refine ht_block ?_
             refine ht_seq ?_
             refine ht_joinS h (fun ((s1316,s1317) : (List Int) × Bool) => [(2,.box 43 (T_Spool.c s [])),(3,.box 39 (T_Rec.c p_r [])),(4,.box 43 [vz,vi 0,vz,vz,vi 0,vz]),(6,.box 43 [.fr (.own 75) false 11 (flatten (map T_Item.ienc v1.Items)),vi v1.Packs,.fl (.own 3) 1 (map (int .i64) v1.Sent),.fl (.own 5) 1 (map (int .u8) v1.Part),vi v1.Of,.fl (.own 3) 1 (map (int .i64) v1.Done)]),(7,.box 39 [vi p_r.Kind,vb false,vs z0,vs z0,vz,vz,vb false,vs z0,vi 0,vi 0,vz,vi 0,vi p_r.Number,vi 0,vz]),(8,vb s1244),(14,vi s1285),(12,.fl (.own 3) 1 (map (int .i64) s1316)),(13,vb s1317)]) ?_ ?_
             ·rintro ⟨s1316, s1317⟩ h
              refine pt_then ?_
              obtain ⟨v293, hv293, h⟩ := zn h
              obtain ⟨v294, hv294, h⟩ := zn h
              obtain ⟨v295, hv295, h⟩ := zn h
              refine zg hn (_::_::_::_::_::_::_::_::_::(364,.fl (.own 3) 1 (map (int .i64) s1316))::(365,.ptr 2 5)::(366,fi s.Done)::(367,vi s1285)::(368,.eref (.slot 366) (v293 * 1))::(369,vi v294)::(370,.fl (.own 3) 1 (map (int .i64) [v294]))::(371,.fl (.own 3) 1 (map (int .i64) v295))::(364,.any)::(12,.fl (.own 3) 1 (map (int .i64) v295))::[]) [0,1,2,3,4,5,6,7,8] [0,1,2,3,4,5,6,8,18] [⟨[],[7],[9],[(.slot 364)]⟩,zq [0] 10 365,zq [10,0] 11 366,zq [6] 12 367,zq [11,12] 13 368,zq [13,11] 14 369,zq [14] 15 370,⟨[15],[9],[17,16],[(.slot 371)]⟩,⟨[],[16],[18],[(.slot 12)]⟩] [(_,_),(_,_),(_,_),(_,_),(_,_),(_,_),(_,_),(_,_),(_,_)] rfl ⟨zp rfl (op_move_take _ _ _ _ rfl),zp rfl (oF underlying43 rfl sz37),zp rfl (oL underlying37 rfl),z1 rfl,zp rfl (op_ix _ _ _ _ _ _ _ _ underlying37 sz3 (by decide) rfl rfl rfl (ix_ok hv293).1 (map_lt (ix_ok hv293).2) rfl),zp rfl (op_load_e _ _ _ _ _ _ underlying3 rfl rfl rfl (map_get hv294)),zp rfl (op_buildSlice _ _ 1 (.int .i64 0) (map (int .i64) [v294]) [(0, .int .i64 v294)] underlying37 sz3 zr3 (fun _ V w o a hv hes => by have e0 := rd_v hv hes (x := .tmp 369) rfl; simp only [List.map_toArray, List.map_cons, List.map_nil, e0]; try rfl) (litfill (by simp [Instr.fill, Value.cells]; rfl) (by simp [List.range, List.range.loop] <;> rfl)) (by simp [Value.oneCell']) rfl (by decide) (by decide) (by decide)),zp rfl (op_app _ _ _ _ _ el37 rfl rfl (map_len _) (map_len _) hv295 ((List.map_append).symm.trans (congrArg (map _) (app_eq hv295)))),zp rfl (op_assign_take _ _ _ _ rfl),zz⟩ ?_
              refine pt_inb ?_
              refine pt_then ?_
              obtain ⟨v296, hv296, h⟩ := zn h
              refine zg hn [_,_,_,_,_,_,_,_,_,(345,vi s1285),(346,vi v296),(14,vi v296)] [0,1,2,3,4,5,6,7,8] [0,1,2,3,4,5,7,8,11] [zq [6] 9 345,zq [9] 10 346,⟨[10],[6],[11],[(.slot 14)]⟩] [(_,_),(_,_),(_,_),(_,_),(_,_),(_,_),(_,_),(_,_),(_,_)] rfl ⟨z1 rfl,zp rfl (oB rfl (ibind (f := int .i64) (Option.some.inj hv296))),zp rfl (LOp.drop [_] (op_assign _ _ _ _ rfl rfl)),zz⟩ ?_
              refine pt_pick [0,1,2,3,4,5,7,6,8] (by kernel_rfl) (es' := [(_,_),(_,_),(_,_),(_,_),(_,_),(_,_),(_,_),(_,_),(_,_)]) rfl ?_
              exact pt_next _ (zi h).symm rfl
             ·intro u1318 h hl1319 hr1320
              refine ht_seq ?_
              refine ht_joinS h (fun (s1321 : Bool) => [(2,.box 43 (T_Spool.c s [])),(3,.box 39 (T_Rec.c p_r [])),(4,.box 43 [vz,vi 0,vz,vz,vi 0,vz]),(6,.box 43 [.fr (.own 75) false 11 (flatten (map T_Item.ienc v1.Items)),vi v1.Packs,.fl (.own 3) 1 (map (int .i64) v1.Sent),.fl (.own 5) 1 (map (int .u8) v1.Part),vi v1.Of,.fl (.own 3) 1 (map (int .i64) v1.Done)]),(7,.box 39 [vi p_r.Kind,vb false,vs z0,vs z0,vz,vz,vb false,vs z0,vi 0,vi 0,vz,vi 0,vi p_r.Number,vi 0,vz]),(8,vb s1244),(12,.fl (.own 3) 1 (map (int .i64) s1283)),(13,vb s1284),(14,vi s1285),(358,vb s1321)]) ?_ ?_
              ·rintro s1321 h
               refine pt_then ?_
               refine ht_cond _ rfl (fun hb1325 => ?_) (fun hb1325 => ?_)
               ·have h := cond_t hb1325 h
                obtain ⟨v282, hv282, h⟩ := zn h
                refine zg hn (_::_::_::_::_::_::_::_::_::_::(359,.fl (.own 3) 1 (map (int .i64) s1283))::(360,.ptr 3 12)::(361,vi p_r.Number)::(362,.fl (.own 3) 1 (map (int .i64) [p_r.Number]))::(363,.fl (.own 3) 1 (map (int .i64) v282))::(359,.any)::(12,.fl (.own 3) 1 (map (int .i64) v282))::(13,vb true)::[]) [0,1,2,3,4,5,6,7,8,9] [0,1,2,3,4,5,8,16,17] [⟨[],[6],[10],[(.slot 359)]⟩,zq [1] 11 360,zq [11,1] 12 361,zq [12] 13 362,⟨[13],[10],[15,14],[(.slot 363)]⟩,⟨[],[14],[16],[(.slot 12)]⟩,⟨[],[7],[17],[(.slot 13)]⟩] [(_,_),(_,_),(_,_),(_,_),(_,_),(_,_),(_,_),(_,_),(_,_)] rfl ⟨zp rfl (op_move_take _ _ _ _ rfl),zp rfl (oF underlying39 rfl sz3),zp rfl (oL underlying3 rfl),zp rfl (op_buildSlice _ _ 1 (.int .i64 0) (map (int .i64) [p_r.Number]) [(0, .int .i64 p_r.Number)] underlying37 sz3 zr3 (fun _ V w o a hv hes => by have e0 := rd_v hv hes (x := .tmp 361) rfl; simp only [List.map_toArray, List.map_cons, List.map_nil, e0]; try rfl) (litfill (by simp [Instr.fill, Value.cells]; rfl) (by simp [List.range, List.range.loop] <;> rfl)) (by simp [Value.oneCell']) rfl (by decide) (by decide) (by decide)),zp rfl (op_app _ _ _ _ _ el37 rfl rfl (map_len _) (map_len _) hv282 ((List.map_append).symm.trans (congrArg (map _) (app_eq hv282)))),zp rfl (op_assign_take _ _ _ _ rfl),zp rfl (LOp.drop [_] (op_assign _ _ _ _ rfl rfl)),zz⟩ ?_
                exact hl1319 _ (zi h).symm
               ·have h := cond_f hb1325 h
                refine ht_skip ?_
                refine pt_pick [0,1,2,3,4,5,8,6,7] (by kernel_rfl) (es' := [(_,_),(_,_),(_,_),(_,_),(_,_),(_,_),(_,_),(_,_),(_,_)]) rfl ?_
                exact hl1319 _ (zi h).symm
              ·intro u1322 h hl1323 hr1324
               obtain ⟨v275, hv275, h⟩ := zn h
               obtain ⟨v276, hv276, h⟩ := zn h
               refine cond_some h (fun hg51_8 h => ?_) (fun hg51_8 h => ?_)
               ·refine ht_anyR (by kernel_rfl) hn (El := (_ :: _ :: _ :: _ :: _ :: _ :: _ :: _ :: _ :: _ :: (347,.ptr 2 5) :: (348,fi s.Done) :: (349,vi s1285) :: (350,.eref (.slot 348) (v275 * 1)) :: (351,vi v276) :: (352,.ptr 3 12) :: (353,vi p_r.Number) :: (354,vb (decide (p_r.Number < v276))) :: (355,vb true) :: (356,vb s1284) :: (357,vb (!s1284)) :: (358,vb (!s1284)) :: [])) (init := [0,1,2,3,4,5,6,7,8,9]) (fin := [0,1,2,3,4,5,6,7,8,21]) (sps := [zq [0] 10 347,zq [10,0] 11 348,zq [8] 12 349,zq [11,12] 13 350,zq [13,11] 14 351,zq [1] 15 352,zq [15,1] 16 353,zq [14,16] 17 354,zq [17] 18 355,zq [18,7] 19 356,zq [18,19] 20 357,zq [18,20] 21 358]) (es' := [(_,_),(_,_),(_,_),(_,_),(_,_),(_,_),(_,_),(_,_),(_,_),(358,vb (!s1284))]) (by kernel_rfl) rfl rfl ⟨zp rfl (oF underlying43 rfl sz37),zp rfl (oL underlying37 rfl),z1 rfl,zp rfl (op_ix _ _ _ _ _ _ _ _ underlying37 sz3 (by decide) rfl rfl rfl (ix_ok hv275).1 (map_lt (ix_ok hv275).2) rfl),zp rfl (op_load_e _ _ _ _ _ _ underlying3 rfl rfl rfl (map_get hv276)),zp rfl (oF underlying39 rfl sz3),zp rfl (oL underlying3 rfl),z4 rfl rfl,z8 hg51_8 rfl,zr' rfl (oM rfl),zr' rfl (op_un _ _ _ _ rfl rfl),z3 true rfl,zz⟩ ?_
                exact hl1323 _ (zi h).symm
               ·refine ht_anyR (by kernel_rfl) hn (El := (_ :: _ :: _ :: _ :: _ :: _ :: _ :: _ :: _ :: _ :: (347,.ptr 2 5) :: (348,fi s.Done) :: (349,vi s1285) :: (350,.eref (.slot 348) (v275 * 1)) :: (351,vi v276) :: (352,.ptr 3 12) :: (353,vi p_r.Number) :: (354,vb (decide (p_r.Number < v276))) :: (355,vb false) :: (356,.v undef) :: (357,.v undef) :: (358,vb false) :: [])) (init := [0,1,2,3,4,5,6,7,8,9]) (fin := [0,1,2,3,4,5,6,7,8,21]) (sps := [zq [0] 10 347,zq [10,0] 11 348,zq [8] 12 349,zq [11,12] 13 350,zq [13,11] 14 351,zq [1] 15 352,zq [15,1] 16 353,zq [14,16] 17 354,zq [17] 18 355,zq [18] 19 356,zq [18] 20 357,zq [18] 21 358]) (es' := [(_,_),(_,_),(_,_),(_,_),(_,_),(_,_),(_,_),(_,_),(_,_),(358,vb false)]) (by kernel_rfl) rfl rfl ⟨zp rfl (oF underlying43 rfl sz37),zp rfl (oL underlying37 rfl),z1 rfl,zp rfl (op_ix _ _ _ _ _ _ _ _ underlying37 sz3 (by decide) rfl rfl rfl (ix_ok hv275).1 (map_lt (ix_ok hv275).2) rfl),zp rfl (op_load_e _ _ _ _ _ _ underlying3 rfl rfl rfl (map_get hv276)),zp rfl (oF underlying39 rfl sz3),zp rfl (oL underlying3 rfl),z4 rfl rfl,z8 hg51_8 rfl,zt rfl,zt rfl,z3 false rfl,zz⟩ ?_
                exact hl1323 _ (zi h).symm
            ·have h := cond_f hb1310 h
             refine ht_exit ?_
             refine pt_x_then ?_
             refine pt_x_then ?_
             refine pt_x_in ?_
             refine pt_pick [0,1,2,3,4,5,6,7] (by kernel_rfl) (es' := [(_,_),(_,_),(_,_),(_,_),(_,_),(_,_),(_,_),(_,_)]) rfl ?_
             exact hl1305 _ (ho1307 _ (zi h).symm).symm
          ·intro u1245 h hl1246 hr1247
           obtain ⟨v268, hv268, h⟩ := zn h
           refine cond_some h (fun hg45_3 h => ?_) (fun hg45_3 h => ?_)
           ·obtain ⟨v269, hv269, h⟩ := zn h
            refine zg hn (_::_::_::_::_::(329,.ptr 3 12)::(330,vi p_r.Number)::(331,vb v268)::(332,vb true)::(333,.ptr 2 5)::(334,fi s.Done)::(335,.ptr 3 12)::(336,vi p_r.Number)::(337,vb v269)::(338,vb (!v269))::(339,vb (!v269))::(8,vb (!v269))::[]) [0,1,2,3,4] [0,1,2,3,4,16] [zq [1] 5 329,zq [5,1] 6 330,zq [6] 7 331,zq [7] 8 332,zq [8,0] 9 333,zq [8,9,0] 10 334,zq [8,1] 11 335,zq [8,11,1] 12 336,zq [8,10,12] 13 337,zq [8,13] 14 338,zq [8,14] 15 339,zq [15] 16 8] [(_,_),(_,_),(_,_),(_,_),(_,_),(_,_)] rfl ⟨zp rfl (oF underlying39 rfl sz3),zp rfl (oL underlying3 rfl),zp rfl (op_call _ _ 30 _ _ rfl call30 rfl (ok_wherryref18_in p_r.Number 1 65535 _ hv268) rfl rfl),z8 hg45_3 rfl,zr' rfl (oF underlying43 rfl sz37),zr' rfl (oL underlying37 rfl),zr' rfl (oF underlying39 rfl sz3),zr' rfl (oL underlying3 rfl),zr' rfl (op_call _ _ 33 _ _ rfl call33 rfl (ok_wherryref18_has s.Done p_r.Number _ hv269) rfl rfl),zr' rfl (op_un _ _ _ _ rfl rfl),z3 true rfl,z2 rfl,zz⟩ ?_
            exact hl1246 _ (zi h).symm
           ·refine zg hn (_::_::_::_::_::(329,.ptr 3 12)::(330,vi p_r.Number)::(331,vb v268)::(332,vb false)::(333,.v undef)::(334,.v undef)::(335,.v undef)::(336,.v undef)::(337,.v undef)::(338,.v undef)::(339,vb false)::(8,vb false)::[]) [0,1,2,3,4] [0,1,2,3,4,16] [zq [1] 5 329,zq [5,1] 6 330,zq [6] 7 331,zq [7] 8 332,zq [8] 9 333,zq [8] 10 334,zq [8] 11 335,zq [8] 12 336,zq [8] 13 337,zq [8] 14 338,zq [8] 15 339,zq [15] 16 8] [(_,_),(_,_),(_,_),(_,_),(_,_),(_,_)] rfl ⟨zp rfl (oF underlying39 rfl sz3),zp rfl (oL underlying3 rfl),zp rfl (op_call _ _ 30 _ _ rfl call30 rfl (ok_wherryref18_in p_r.Number 1 65535 _ hv268) rfl rfl),z8 hg45_3 rfl,zt rfl,zt rfl,zt rfl,zt rfl,zt rfl,zt rfl,z3 false rfl,z2 rfl,zz⟩ ?_
            exact hl1246 _ (zi h).symm
         ·have h := cond_f hb1243 h
          refine ht_skip ?_
          refine pt_inb ?_
          refine pt_pick [1,2,3,4,5] (by kernel_rfl) (es' := [(_,_),(_,_),(_,_),(_,_),(_,_)]) rfl ?_
          refine pt_sub (fs := [(3,.box 39 (T_Rec.c p_r [])),(4,.box 43 [vz,vi 0,vz,vz,vi 0,vz]),(6,.box 43 [.fr (.own 75) false 11 (flatten (map T_Item.ienc v1.Items)),vi v1.Packs,.fl (.own 3) 1 (map (int .i64) v1.Sent),.fl (.own 5) 1 (map (int .u8) v1.Part),vi v1.Of,.fl (.own 3) 1 (map (int .i64) v1.Done)]),(7,.box 39 [vi p_r.Kind,vb false,vs z0,vs z0,.fl .shr 3 (flatten (map T_Path.enc [])),fb [],vb false,vs z0,vi 0,vi 0,fi [],vi 0,vi 0,vi 0,fb []]),(8,vb false)]) (.same _ (.same _ (.same _ (.box _ _ (subs_cons (sub_refl _) (subs_cons (sub_refl _) (subs_cons (sub_refl _) (subs_cons (sub_refl _) (subs_cons (sub_nil_shr 3) (subs_cons (sub_nil_shr 1) (subs_cons (sub_refl _) (subs_cons (sub_refl _) (subs_cons (sub_refl _) (subs_cons (sub_refl _) (subs_cons (sub_nil_shr 1) (subs_cons (sub_refl _) (subs_cons (sub_refl _) (subs_cons (sub_refl _) (subs_cons (sub_nil_shr 1) (subs_nil)))))))))))))))) rfl (.same _ .nil))))) ?_
          exact hl1033 _ (zi h).symm
theorem ok_wherryref18_Fold (l : (List T_Rec)) (r : (T_Spool × Int)) (h : Sh.wherryref18_Fold l = some r) : FnOK Tryd.prog 14 [.fr .shr true 15 (flatten (map T_Rec.ienc l))] (.tup [.agg [.fr (.own 75) false 11 (flatten (map T_Item.ienc r.1.Items)), .v (.int .i64 r.1.Packs), .fl (.own 3) 1 (map (int .i64) r.1.Sent), .fl (.own 5) 1 (map (int .u8) r.1.Part), .v (.int .i64 r.1.Of), .fl (.own 3) 1 (map (int .i64) r.1.Done)], .v (.int .i64 r.2)]) := by
  unfold Sh.wherryref18_Fold at h
  refine fn_ok func14 rfl (zl rfl) rfl rfl fun g0 hn hio => ?_
  refine zgg hn [_,(2,.box 43 [vz,vi 0,vz,vz,vi 0,vz]),(3,vi 0)] [0] [0,1] [zq [] 1 2,zq [] 2 3] [(_,_),(_,_)] rfl ⟨zp rfl (op_alloc _ _ zr43),z2 rfl,zz⟩ ?_
  refine ht_seq ?_
  obtain ⟨v1, hv1, h⟩ := zn h
  refine zg hn [_,_,(8,.agg [.fr (.own 75) false 11 (flatten (map T_Item.ienc v1.Items)),vi v1.Packs,.fl (.own 3) 1 (map (int .i64) v1.Sent),.fl (.own 5) 1 (map (int .u8) v1.Part),vi v1.Of,.fl (.own 3) 1 (map (int .i64) v1.Done)]),(4,.box 43 [vz,vi 0,vz,vz,vi 0,vz]),(4,.box 43 [.fr (.own 75) false 11 (flatten (map T_Item.ienc v1.Items)),vi v1.Packs,.fl (.own 3) 1 (map (int .i64) v1.Sent),.fl (.own 5) 1 (map (int .u8) v1.Part),vi v1.Of,.fl (.own 3) 1 (map (int .i64) v1.Done)])] [0,1] [0,1,4] [zq [] 2 8,zq [] 3 4,⟨[],[2,3],[4],[.cell 4 0,.cell 4 1,.cell 4 2,.cell 4 3,.cell 4 4,.cell 4 5]⟩] [(_,_),(_,_),(_,_)] rfl ⟨zp rfl (op_call _ _ 28 _ _ rfl call28 rfl (ok_wherryref18_Nothing  _ hv1) rfl rfl),zp rfl (op_alloc _ _ zr43),zp rfl (op_store_take _ _ _ _ _ _ _ _ sz43 rfl rfl rfl (zl rfl) rfl rfl),zz⟩ ?_
  refine pt_then (ht_seq ?_)
  refine zgg hn [_,_,_,(5,vi 0)] [0,1,2] [0,1,2,3] [zq [] 3 5] [(_,_),(_,_),(_,_),(_,_)] rfl ⟨z2 rfl,zz⟩ ?_
  refine ht_loopS h (fun ((s17,s18,s19,s20,s21,s22,s23) : (List T_Item) × Int × (List Int) × (List Int) × Int × (List Int) × Int) => [(0,.fr .shr true 15 (flatten (map T_Rec.ienc l))),(2,.box 43 [vz,vi 0,vz,vz,vi 0,vz]),(4,.box 43 [.fr (.own 75) false 11 (flatten (map T_Item.ienc s17)),vi s18,.fl (.own 3) 1 (map (int .i64) s19),.fl (.own 5) 1 (map (int .u8) s20),vi s21,.fl (.own 3) 1 (map (int .i64) s22)]),(5,vi s23)]) (fun ((s26,s27,s28,s29,s30,s31) : (List T_Item) × Int × (List Int) × (List Int) × Int × (List Int)) => [(0,.fr .shr true 15 (flatten (map T_Rec.ienc l))),(2,.box 43 [vz,vi 0,vz,vz,vi 0,vz]),(4,.box 43 [.fr (.own 75) false 11 (flatten (map T_Item.ienc s26)),vi s27,.fl (.own 3) 1 (map (int .i64) s28),.fl (.own 5) 1 (map (int .u8) s29),vi s30,.fl (.own 3) 1 (map (int .i64) s31)])]) ?_ ?_
  ·rintro ⟨s26, s27, s28, s29, s30, s31⟩ h
   refine pt_then ?_
   refine zgg hn [_,_,_,(29,.agg [.fr (.own 75) false 11 (flatten (map T_Item.ienc s26)),vi s27,.fl (.own 3) 1 (map (int .i64) s28),.fl (.own 5) 1 (map (int .u8) s29),vi s30,.fl (.own 3) 1 (map (int .i64) s31)]),(30,.fr .shr true 15 (flatten (map T_Rec.ienc l))),(31,vi (l.length : Int)),(2,.box 43 [.fr (.own 75) false 11 (flatten (map T_Item.ienc s26)),vi s27,.fl (.own 3) 1 (map (int .i64) s28),.fl (.own 5) 1 (map (int .u8) s29),vi s30,.fl (.own 3) 1 (map (int .i64) s31)]),(3,vi (l.length : Int))] [0,1,2] [6,7] [⟨[],[2],[3],[(.slot 29)]⟩,zq [0] 4 30,zq [4] 5 31,⟨[],[3,1],[6],[.cell 2 0,.cell 2 1,.cell 2 2,.cell 2 3,.cell 2 4,.cell 2 5]⟩,zq [5] 7 3] [(_,_),(_,_)] rfl ⟨zp rfl (op_loadA_take _ _ _ _ underlying43 rfl sz43 rfl rfl),z1 rfl,zp rfl (op_len_fr _ _ _ underlying33 rfl (by decide) (gflat_len T_Rec.ilen _)),zp rfl (op_store_take _ _ _ _ _ _ _ _ sz43 rfl rfl rfl (zl rfl) rfl rfl),z2 rfl,zz⟩ ?_
   refine ht_ret ?_
   obtain rfl := zi h
   exact pt_ret hio rfl (.cellA _ _ _ _ underlying43 rfl sz43 (.tmp _ _ .nil)) rfl rfl
  ·rintro u32 hl33 hr34 ⟨s17, s18, s19, s20, s21, s22, s23⟩ rr37 h ho35
   refine ht_seq ?_
   refine zgg hn [_,_,_,_,(9,vi s23),(10,.fr .shr true 15 (flatten (map T_Rec.ienc l))),(11,vi (l.length : Int)),(12,vb (decide (s23 < (l.length : Int))))] [0,1,2,3] [0,1,2,3,7] [zq [3] 4 9,zq [0] 5 10,zq [5] 6 11,zq [4,6] 7 12] [(_,_),(_,_),(_,_),(_,_),(_,_)] rfl ⟨z1 rfl,z1 rfl,zp rfl (op_len_fr _ _ _ underlying33 rfl (by decide) (gflat_len T_Rec.ilen _)),z4 rfl rfl,zz⟩ ?_
   refine ht_cond _ rfl (fun hb38 => ?_) (fun hb38 => ?_)
   ·have h := cond_t hb38 h
    refine ht_skip ?_
    refine pt_then (ht_seq ?_)
    refine ht_block ?_
    refine ht_seq ?_
    obtain ⟨v3, hv3, h⟩ := zn h
    obtain ⟨v4, hv4, h⟩ := zn h
    obtain ⟨v5, hv5, h⟩ := zn h
    refine ht_anyR (by kernel_rfl) hn (El := (_ :: _ :: _ :: _ :: _ :: (16,.agg [.same (.cell 4 0),vi s18,.same (.cell 4 2),.same (.cell 4 3),vi s21,.same (.cell 4 5)]) :: (17,.fr .shr true 15 (flatten (map T_Rec.ienc l))) :: (18,vi s23) :: (19,.eref (.slot 17) (v3 * 15)) :: (20,.agg (T_Rec.c v4 [])) :: (21,.tup [.agg [.fr (.own 75) false 11 (flatten (map T_Item.ienc v5.1.Items)),vi v5.1.Packs,.fl (.own 3) 1 (map (int .i64) v5.1.Sent),.fl (.own 5) 1 (map (int .u8) v5.1.Part),vi v5.1.Of,.fl (.own 3) 1 (map (int .i64) v5.1.Done)],vi v5.2]) :: (15,.tup [.agg [.fr (.own 75) false 11 (flatten (map T_Item.ienc v5.1.Items)),vi v5.1.Packs,.fl (.own 3) 1 (map (int .i64) v5.1.Sent),.fl (.own 5) 1 (map (int .u8) v5.1.Part),vi v5.1.Of,.fl (.own 3) 1 (map (int .i64) v5.1.Done)],.any]) :: (15,.tup [.any,vi v5.2]) :: (22,.agg [.fr (.own 75) false 11 (flatten (map T_Item.ienc v5.1.Items)),vi v5.1.Packs,.fl (.own 3) 1 (map (int .i64) v5.1.Sent),.fl (.own 5) 1 (map (int .u8) v5.1.Part),vi v5.1.Of,.fl (.own 3) 1 (map (int .i64) v5.1.Done)]) :: (15,.tup [.any,.any]) :: (23,vi v5.2) :: (6,.box 43 [vz,vi 0,vz,vz,vi 0,vz]) :: (6,.box 43 [.fr (.own 75) false 11 (flatten (map T_Item.ienc v5.1.Items)),vi v5.1.Packs,.fl (.own 3) 1 (map (int .i64) v5.1.Sent),.fl (.own 5) 1 (map (int .u8) v5.1.Part),vi v5.1.Of,.fl (.own 3) 1 (map (int .i64) v5.1.Done)]) :: (7,vi v5.2) :: [])) (init := [0,1,2,3,4]) (fin := [0,1,2,3,17,18]) (sps := [zq [2] 5 16,zq [0] 6 17,zq [3] 7 18,zq [6,7] 8 19,zq [8,6] 9 20,zq [5,2,9] 10 21,⟨[],[10],[11,12],[(.slot 15)]⟩,⟨[],[11],[14,13],[(.slot 22)]⟩,zq [12] 15 23,zq [] 16 6,⟨[],[13,16],[17],[.cell 6 0,.cell 6 1,.cell 6 2,.cell 6 3,.cell 6 4,.cell 6 5]⟩,zq [15] 18 7]) (es' := [(_,_),(_,_),(_,_),(_,_),(6,.box 43 [.fr (.own 75) false 11 (flatten (map T_Item.ienc v5.1.Items)),vi v5.1.Packs,.fl (.own 3) 1 (map (int .i64) v5.1.Sent),.fl (.own 5) 1 (map (int .u8) v5.1.Part),vi v5.1.Of,.fl (.own 3) 1 (map (int .i64) v5.1.Done)]),(7,vi v5.2)]) (by kernel_rfl) rfl rfl ⟨zp rfl (op_loadA _ _ _ _ _ _ _ underlying43 rfl sz43 rfl rfl (zl rfl) rfl rfl),z1 rfl,z1 rfl,zp rfl (op_ix_fr _ _ _ _ _ _ _ _ underlying33 sz39 (by decide) rfl rfl rfl (ix_ok hv3).1 (gflat_lt T_Rec.ilen (ix_ok hv3).2) rfl),zp rfl (op_loadA_fr _ _ _ _ _ _ _ _ underlying39 rfl sz39 rfl rfl (gflat_get T_Rec.ilen hv4) (.cons (.v _) (.cons (.v _) (.cons (.v _) (.cons (.v _) (.cons (.fl _ _ rfl) (.cons (.fl _ _ rfl) (.cons (.v _) (.cons (.v _) (.cons (.v _) (.cons (.v _) (.cons (.fl _ _ rfl) (.cons (.v _) (.cons (.v _) (.cons (.v _) (.cons (.fl _ _ rfl) (.nil)))))))))))))))) rfl (by decide)),zp rfl (op_call _ _ 15 _ _ rfl call15 rfl (ok_wherryref18_Add (T_Spool.mk s17 s18 s19 s20 s21 s22) ((T_Rec.mk v4.Kind ((T_Mail.mk (T_Path.mk v4.Mail.From.Null v4.Mail.From.Local v4.Mail.From.Domain) v4.Mail.To v4.Mail.Body v4.Mail.Quiet v4.Mail.Helo v4.Mail.At)) v4.Id v4.Ids v4.Origin v4.Number v4.Offset v4.Data)) _ hv5) rfl rfl),zp rfl (LOp.split (A := []) 15 0 _ _ _ (op_move_take _ _ _ _ rfl) (zl rfl) rfl rfl),zp rfl (op_extract_take _ _ _ _ _ rfl (zl rfl) rfl rfl (by decide) rfl),zp rfl (oE rfl),zp rfl (op_alloc _ _ zr43),zp rfl (op_store_take _ _ _ _ _ _ _ _ sz43 rfl rfl rfl (zl rfl) rfl rfl),z2 rfl,zz⟩ ?_
    refine pt_then (ht_seq ?_)
    refine zgg hn [_,_,_,_,_,_,(24,vi v5.2),(25,vb (v5.2 != 0))] [0,1,2,3,4,5] [0,1,2,3,4,7] [zq [5] 6 24,zq [6] 7 25] [(_,_),(_,_),(_,_),(_,_),(_,_),(_,_)] rfl ⟨z1 rfl,z4 rfl rfl,zz⟩ ?_
    refine ht_cond _ rfl (fun hb39 => ?_) (fun hb39 => ?_)
    ·have h := cond_t hb39 h
     refine zgg hn [_,_,_,_,_,_,(26,.agg [.fr (.own 75) false 11 (flatten (map T_Item.ienc s17)),vi s18,.fl (.own 3) 1 (map (int .i64) s19),.fl (.own 5) 1 (map (int .u8) s20),vi s21,.fl (.own 3) 1 (map (int .i64) s22)]),(27,vi s23),(2,.box 43 [.fr (.own 75) false 11 (flatten (map T_Item.ienc s17)),vi s18,.fl (.own 3) 1 (map (int .i64) s19),.fl (.own 5) 1 (map (int .u8) s20),vi s21,.fl (.own 3) 1 (map (int .i64) s22)]),(3,vi s23)] [0,1,2,3,4,5] [8,9] [⟨[],[2],[6],[(.slot 26)]⟩,zq [3] 7 27,⟨[],[6,1],[8],[.cell 2 0,.cell 2 1,.cell 2 2,.cell 2 3,.cell 2 4,.cell 2 5]⟩,zq [7] 9 3] [(_,_),(_,_)] rfl ⟨zp rfl (op_loadA_take _ _ _ _ underlying43 rfl sz43 rfl rfl),z1 rfl,zp rfl (op_store_take _ _ _ _ _ _ _ _ sz43 rfl rfl rfl (zl rfl) rfl rfl),z2 rfl,zz⟩ ?_
     refine ht_ret ?_
     refine pt_r_then ?_
     refine pt_r_in ?_
     refine pt_r_then ?_
     refine pt_r_then ?_
     refine pt_r_in ?_
     refine pt_r_then ?_
     have h := hr34 _ (ho35 _ (zi h).symm).symm
     obtain rfl := zi h
     exact pt_ret hio rfl (.cellA _ _ _ _ underlying43 rfl sz43 (.tmp _ _ .nil)) rfl rfl
    ·have h := cond_f hb39 h
     refine ht_skip ?_
     refine pt_then ?_
     refine zg hn [_,_,_,_,_,_,(28,.agg [.fr (.own 75) false 11 (flatten (map T_Item.ienc v5.1.Items)),vi v5.1.Packs,.fl (.own 3) 1 (map (int .i64) v5.1.Sent),.fl (.own 5) 1 (map (int .u8) v5.1.Part),vi v5.1.Of,.fl (.own 3) 1 (map (int .i64) v5.1.Done)]),(4,.box 43 [.fr (.own 75) false 11 (flatten (map T_Item.ienc v5.1.Items)),vi v5.1.Packs,.fl (.own 3) 1 (map (int .i64) v5.1.Sent),.fl (.own 5) 1 (map (int .u8) v5.1.Part),vi v5.1.Of,.fl (.own 3) 1 (map (int .i64) v5.1.Done)])] [0,1,2,3,4,5] [0,1,7,3] [⟨[],[4],[6],[(.slot 28)]⟩,⟨[],[6,2],[7],[.cell 4 0,.cell 4 1,.cell 4 2,.cell 4 3,.cell 4 4,.cell 4 5]⟩] [(_,_),(_,_),(_,_),(_,_)] rfl ⟨zp rfl (op_loadA_take _ _ _ _ underlying43 rfl sz43 rfl rfl),zp rfl (op_store_take _ _ _ _ _ _ _ _ sz43 rfl rfl rfl (zl rfl) rfl rfl),zz⟩ ?_
     refine pt_inb ?_
     refine pt_then ?_
     obtain ⟨v7, hv7, h⟩ := zn h
     refine zg hn [_,_,_,_,(13,vi s23),(14,vi v7),(5,vi v7)] [0,1,2,3] [0,1,2,6] [zq [3] 4 13,zq [4] 5 14,⟨[5],[3],[6],[(.slot 5)]⟩] [(_,_),(_,_),(_,_),(_,_)] rfl ⟨z1 rfl,zp rfl (oB rfl (ibind (f := int .i64) (Option.some.inj hv7))),zp rfl (LOp.drop [_] (op_assign _ _ _ _ rfl rfl)),zz⟩ ?_
     exact pt_next _ (zi h).symm rfl
   ·have h := cond_f hb38 h
    refine ht_exit ?_
    refine pt_x_then ?_
    refine pt_x_then ?_
    refine pt_x_in ?_
    refine pt_pick [0,1,2] (by kernel_rfl) (es' := [(_,_),(_,_),(_,_)]) rfl ?_
    exact hl33 _ (ho35 _ (zi h).symm).symm
theorem ok_tally_waits (x : T_Item) (r : Bool) (h : Sh.tally_waits x = some r) : FnOK Tryd.prog 35 [.agg [.v (.int .i64 x.Id), .v (.bool x.Mail.From.Null), .v (.string x.Mail.From.Local), .v (.string x.Mail.From.Domain), .fl .shr 3 (flatten (map T_Path.enc x.Mail.To)), .fl .shr 1 (map (int .u8) x.Mail.Body), .v (.bool x.Mail.Quiet), .v (.string x.Mail.Helo), .v (.int .i64 x.Mail.At), .v (.int .i64 x.State), .v (.int .i64 x.Pack)]] (.v (.bool r)) := by
  unfold Sh.tally_waits at h
  refine fn_ok func35 rfl (zl rfl) rfl rfl fun g0 hn hio => ?_
  refine zgg hn [_,(1,.box 75 (T_Item.c x [])),(2,vb false)] [0] [1] [zq [0] 1 1,zq [] 2 2] [(_,_)] rfl ⟨zp rfl (op_box _ _ _ _ rfl rfl rfl),z2 rfl,zz⟩ ?_
  refine ht_seq ?_
  refine ht_joinS h (fun (s1 : Bool) => [(2,vb s1)]) ?_ ?_
  ·rintro s1 h
   refine pt_then (ht_ret ?_)
   obtain rfl := zi h
   exact pt_ret hio rfl (.tmp _ _ .nil) rfl rfl
  ·intro u2 h hl3 hr4
   refine cond_some h (fun hg1_3 h => ?_) (fun hg1_3 h => ?_)
   ·refine zg hn [_,(3,.ptr 1 9),(4,vi x.State),(5,vb (x.State == 1)),(6,vb true),(7,.v undef),(8,.v undef),(9,.v undef),(10,vb true),(2,vb true)] [0] [9] [zq [0] 1 3,zq [1,0] 2 4,zq [2] 3 5,zq [3] 4 6,zq [4] 5 7,zq [4] 6 8,zq [4] 7 9,zq [4] 8 10,zq [8] 9 2] [(_,_)] rfl ⟨zp rfl (oF underlying75 rfl sz3),zp rfl (oL underlying3 rfl),z4 rfl rfl,z8 hg1_3 rfl,zf rfl,zf rfl,zf rfl,z3 true rfl,z2 rfl,zz⟩ ?_
    exact hl3 _ (zi h).symm
   ·refine zg hn [_,(3,.ptr 1 9),(4,vi x.State),(5,vb (x.State == 1)),(6,vb false),(7,.ptr 1 9),(8,vi x.State),(9,vb (x.State == 2)),(10,vb (x.State == 2)),(2,vb (x.State == 2))] [0] [9] [zq [0] 1 3,zq [1,0] 2 4,zq [2] 3 5,zq [3] 4 6,zq [4,0] 5 7,zq [4,5,0] 6 8,zq [4,6] 7 9,zq [4,7] 8 10,zq [8] 9 2] [(_,_)] rfl ⟨zp rfl (oF underlying75 rfl sz3),zp rfl (oL underlying3 rfl),z4 rfl rfl,z8 hg1_3 rfl,zr' rfl (oF underlying75 rfl sz3),zr' rfl (oL underlying3 rfl),zr' rfl (oB rfl rfl),z3 false rfl,z2 rfl,zz⟩ ?_
    exact hl3 _ (zi h).symm
theorem ok_tally_Bound (s : T_Spool) (r : Int) (h : Sh.tally_Bound s = some r) : FnOK Tryd.prog 16 [.agg [.fr .shr true 11 (flatten (map T_Item.ienc s.Items)), .v (.int .i64 s.Packs), .fl .shr 1 (map (int .i64) s.Sent), .fl .shr 1 (map (int .u8) s.Part), .v (.int .i64 s.Of), .fl .shr 1 (map (int .i64) s.Done)]] (.v (.int .i64 r)) := by
  unfold Sh.tally_Bound at h
  refine fn_ok func16 rfl (zl rfl) rfl rfl fun g0 hn hio => ?_
  refine zgg hn [_,(1,.box 43 (T_Spool.c s [])),(2,vi 0)] [0] [1] [zq [0] 1 1,zq [] 2 2] [(_,_)] rfl ⟨zp rfl (op_box _ _ _ _ rfl rfl rfl),z2 rfl,zz⟩ ?_
  refine zgg hn [_,(3,vi 40)] [0] [0,1] [zq [] 1 3] [(_,_),(_,_)] rfl ⟨z2 rfl,zz⟩ ?_
  refine ht_seq ?_
  refine zgg hn [_,_,(7,.ptr 1 0),(8,.fr .shr true 11 (flatten (map T_Item.ienc s.Items))),(9,vi (s.Items.length : Int)),(10,vi 0)] [0,1] [1,3,4,5] [zq [0] 2 7,zq [2,0] 3 8,zq [3] 4 9,zq [] 5 10] [(_,_),(_,_),(_,_),(_,_)] rfl ⟨zp rfl (oF underlying43 rfl sz41),zp rfl (oL underlying41 rfl),zp rfl (op_len_fr _ _ _ underlying41 rfl (by decide) (gflat_len T_Item.ilen _)),z1 rfl,zz⟩ ?_
  refine ht_loopS h (fun ((s29,s30) : Int × Int) => [(3,vi s29),(8,.fr .shr true 11 (flatten (map T_Item.ienc s.Items))),(9,vi (s.Items.length : Int)),(10,vi s30)]) (fun (s38 : Int) => [(3,vi s38)]) ?_ ?_
  ·rintro s38 h
   refine pt_then ?_
   refine zgg hn [_,(35,vi s38),(2,vi s38)] [0] [2] [zq [0] 1 35,zq [1] 2 2] [(_,_)] rfl ⟨z1 rfl,z2 rfl,zz⟩ ?_
   refine ht_ret ?_
   obtain rfl := zi h
   exact pt_ret hio rfl (.tmp _ _ .nil) rfl rfl
  ·rintro u39 hl40 hr41 ⟨s29, s30⟩ rr44 h ho42
   refine zgg hn [_,_,_,_,(11,vb (decide (s30 < (s.Items.length : Int))))] [0,1,2,3] [0,1,2,3,4] [zq [3,2] 4 11] [(_,_),(_,_),(_,_),(_,_),(_,_)] rfl ⟨z4 rfl rfl,zz⟩ ?_
   refine ht_seq ?_
   refine ht_cond _ rfl (fun hb45 => ?_) (fun hb45 => ?_)
   ·have h := cond_t hb45 h
    refine ht_skip ?_
    refine pt_then (ht_seq ?_)
    refine ht_joinS h (fun (s47 : Int) => [(8,.fr .shr true 11 (flatten (map T_Item.ienc s.Items))),(9,vi (s.Items.length : Int)),(10,vi s30),(3,vi s47)]) ?_ ?_
    ·rintro s47 h
     refine pt_then ?_
     obtain ⟨v19, hv19, h⟩ := zn h
     refine zg hn [_,_,_,_,(34,vi v19),(10,vi v19)] [0,1,2,3] [0,1,3,5] [zq [2] 4 34,⟨[4],[2],[5],[(.slot 10)]⟩] [(_,_),(_,_),(_,_),(_,_)] rfl ⟨zp rfl (oB rfl (ibind (f := int .i64) (Option.some.inj hv19))),zp rfl (LOp.drop [_] (oM rfl)),zz⟩ ?_
     refine pt_pick [2,0,1,3] (by kernel_rfl) (es' := [(_,_),(_,_),(_,_),(_,_)]) rfl ?_
     exact pt_next _ (zi h).symm rfl
    ·intro u48 h hl49 hr50
     refine ht_block ?_
     refine ht_seq ?_
     obtain ⟨v2, hv2, h⟩ := zn h
     obtain ⟨v3, hv3, h⟩ := zn h
     refine zg hn [_,_,_,_,_,(12,.eref (.slot 8) (v2 * 11)),(13,.agg (T_Item.c v3 [])),(5,.box 75 [vi 0,vb false,vs z0,vs z0,vz,vz,vb false,vs z0,vi 0,vi 0,vi 0]),(5,.box 75 (T_Item.c v3 []))] [0,1,2,3,4] [0,1,2,3,8] [zq [1,3] 5 12,zq [5,1] 6 13,zq [] 7 5,⟨[6],[7],[8],[.cell 5 0,.cell 5 1,.cell 5 2,.cell 5 3,.cell 5 4,.cell 5 5,.cell 5 6,.cell 5 7,.cell 5 8,.cell 5 9,.cell 5 10]⟩] [(_,_),(_,_),(_,_),(_,_),(_,_)] rfl ⟨zp rfl (op_ix_fr _ _ _ _ _ _ _ _ underlying41 sz75 (by decide) rfl rfl rfl (ix_ok hv2).1 (gflat_lt T_Item.ilen (ix_ok hv2).2) rfl),zp rfl (op_loadA_fr _ _ _ _ _ _ _ _ underlying75 rfl sz75 rfl rfl (gflat_get T_Item.ilen hv3) (.cons (.v _) (.cons (.v _) (.cons (.v _) (.cons (.v _) (.cons (.fl _ _ rfl) (.cons (.fl _ _ rfl) (.cons (.v _) (.cons (.v _) (.cons (.v _) (.cons (.v _) (.cons (.v _) (.nil)))))))))))) rfl (by decide)),zp rfl (op_alloc _ _ zr75),zp rfl (oS sz75 rfl),zz⟩ ?_
     refine pt_then (ht_seq ?_)
     obtain ⟨v4, hv4, h⟩ := zn h
     refine zg hn [_,_,_,_,_,(14,.agg (T_Item.c v3 [])),(15,vb v4)] [0,1,2,3,4] [0,1,2,3,4,6] [zq [4] 5 14,zq [5] 6 15] [(_,_),(_,_),(_,_),(_,_),(_,_),(_,_)] rfl ⟨zp rfl (op_loadA _ _ _ _ _ _ _ underlying75 rfl sz75 rfl rfl (zl rfl) rfl rfl),zp rfl (op_call _ _ 35 _ _ rfl call35 rfl (ok_tally_waits ((T_Item.mk v3.Id ((T_Mail.mk (T_Path.mk v3.Mail.From.Null v3.Mail.From.Local v3.Mail.From.Domain) v3.Mail.To v3.Mail.Body v3.Mail.Quiet v3.Mail.Helo v3.Mail.At)) v3.State v3.Pack)) _ hv4) rfl rfl),zz⟩ ?_
     refine pt_then ?_
     refine ht_cond _ rfl (fun hb51 => ?_) (fun hb51 => ?_)
     ·have h := cond_t hb51 h
      refine ht_seq ?_
      obtain ⟨v6, hv6, h⟩ := zn h
      obtain ⟨v7, hv7, h⟩ := zn h
      obtain ⟨v8, hv8, h⟩ := zn h
      refine zg hn [_,_,_,_,_,_,(16,.ptr 5 1),(17,.ptr 5 5),(18,fb v3.Mail.Body),(19,vi (v3.Mail.Body.length : Int)),(20,vi v6),(21,vi v7),(22,vi v8),(6,vi v8)] [0,1,2,3,4,5] [0,1,2,3,4,13] [zq [4] 6 16,zq [6,4] 7 17,zq [7,4] 8 18,zq [8] 9 19,zq [9] 10 20,zq [10] 11 21,zq [11] 12 22,zq [12] 13 6] [(_,_),(_,_),(_,_),(_,_),(_,_),(_,_)] rfl ⟨zp rfl (oF underlying75 rfl sz36),zp rfl (oF underlying36 rfl sz25),zp rfl (oL underlying25 rfl),zp rfl (op_len_fl _ _ _ underlying25 rfl (by decide) (map_len _)),zp rfl (oB rfl (ibind (f := int .i64) (Option.some.inj hv6))),zp rfl (oB rfl (ibind (f := int .i64) (Option.some.inj hv7))),zp rfl (oB rfl (quo_ok hv8)),z2 rfl,zz⟩ ?_
      refine pt_then ?_
      obtain ⟨v9, hv9, h⟩ := zn h
      obtain ⟨v10, hv10, h⟩ := zn h
      obtain ⟨v11, hv11, h⟩ := zn h
      obtain ⟨v12, hv12, h⟩ := zn h
      obtain ⟨v13, hv13, h⟩ := zn h
      refine zg hn (_::_::_::_::_::_::(23,vi s29)::(24,vi v8)::(25,vi v9)::(26,vi v10)::(27,.ptr 5 1)::(28,.ptr 5 4)::(29,.fl .shr 3 (flatten (map T_Path.enc v3.Mail.To)))::(30,vi (v3.Mail.To.length : Int))::(31,vi v11)::(32,vi v12)::(33,vi v13)::(3,vi v13)::[]) [0,1,2,3,4,5] [1,2,3,17] [zq [0] 6 23,zq [5] 7 24,zq [7] 8 25,zq [8] 9 26,zq [4] 10 27,zq [10,4] 11 28,zq [11,4] 12 29,zq [12] 13 30,zq [13] 14 31,zq [9,14] 15 32,zq [6,15] 16 33,⟨[16],[0],[17],[(.slot 3)]⟩] [(_,_),(_,_),(_,_),(_,_)] rfl ⟨z1 rfl,z1 rfl,zp rfl (oB rfl (ibind (f := int .i64) (Option.some.inj hv9))),zp rfl (oB rfl (ibind (f := int .i64) (Option.some.inj hv10))),zp rfl (oF underlying75 rfl sz36),zp rfl (oF underlying36 rfl sz34),zp rfl (oL underlying34 rfl),zp rfl (op_len_fl _ _ _ underlying34 rfl (by decide) (flat_len T_Path.len _)),zp rfl (oB rfl (ibind (f := int .i64) (Option.some.inj hv11))),zp rfl (oB rfl (ibind (f := int .i64) (Option.some.inj hv12))),zp rfl (oB rfl (ibind (f := int .i64) (Option.some.inj hv13))),zp rfl (LOp.drop [_] (op_assign _ _ _ _ rfl rfl)),zz⟩ ?_
      refine pt_inb ?_
      exact hl49 _ (zi h).symm
     ·have h := cond_f hb51 h
      refine ht_skip ?_
      refine pt_inb ?_
      refine pt_pick [1,2,3,0] (by kernel_rfl) (es' := [(_,_),(_,_),(_,_),(_,_)]) rfl ?_
      exact hl49 _ (zi h).symm
   ·have h := cond_f hb45 h
    refine ht_exit ?_
    refine pt_x_then ?_
    refine pt_x_then ?_
    refine pt_x_in ?_
    refine pt_pick [0] (by kernel_rfl) (es' := [(_,_)]) rfl ?_
    exact hl40 _ (ho42 _ (zi h).symm).symm
theorem ok_tally_Waits (s : T_Spool) (r : Int) (h : Sh.tally_Waits s = some r) : FnOK Tryd.prog 17 [.agg [.fr .shr true 11 (flatten (map T_Item.ienc s.Items)), .v (.int .i64 s.Packs), .fl .shr 1 (map (int .i64) s.Sent), .fl .shr 1 (map (int .u8) s.Part), .v (.int .i64 s.Of), .fl .shr 1 (map (int .i64) s.Done)]] (.v (.int .i64 r)) := by
  unfold Sh.tally_Waits at h
  refine fn_ok func17 rfl (zl rfl) rfl rfl fun g0 hn hio => ?_
  refine zgg hn [_,(1,.box 43 (T_Spool.c s [])),(2,vi 0)] [0] [1] [zq [0] 1 1,zq [] 2 2] [(_,_)] rfl ⟨zp rfl (op_box _ _ _ _ rfl rfl rfl),z2 rfl,zz⟩ ?_
  refine zgg hn [_,(3,vi 0)] [0] [0,1] [zq [] 1 3] [(_,_),(_,_)] rfl ⟨z2 rfl,zz⟩ ?_
  refine ht_seq ?_
  refine zgg hn [_,_,(6,.ptr 1 0),(7,.fr .shr true 11 (flatten (map T_Item.ienc s.Items))),(8,vi (s.Items.length : Int)),(9,vi 0)] [0,1] [1,3,4,5] [zq [0] 2 6,zq [2,0] 3 7,zq [3] 4 8,zq [] 5 9] [(_,_),(_,_),(_,_),(_,_)] rfl ⟨zp rfl (oF underlying43 rfl sz41),zp rfl (oL underlying41 rfl),zp rfl (op_len_fr _ _ _ underlying41 rfl (by decide) (gflat_len T_Item.ilen _)),z1 rfl,zz⟩ ?_
  refine ht_loopS h (fun ((s22,s23) : Int × Int) => [(3,vi s22),(7,.fr .shr true 11 (flatten (map T_Item.ienc s.Items))),(8,vi (s.Items.length : Int)),(9,vi s23)]) (fun (s31 : Int) => [(3,vi s31)]) ?_ ?_
  ·rintro s31 h
   refine pt_then ?_
   refine zgg hn [_,(18,vi s31),(2,vi s31)] [0] [2] [zq [0] 1 18,zq [1] 2 2] [(_,_)] rfl ⟨z1 rfl,z2 rfl,zz⟩ ?_
   refine ht_ret ?_
   obtain rfl := zi h
   exact pt_ret hio rfl (.tmp _ _ .nil) rfl rfl
  ·rintro u32 hl33 hr34 ⟨s22, s23⟩ rr37 h ho35
   refine zgg hn [_,_,_,_,(10,vb (decide (s23 < (s.Items.length : Int))))] [0,1,2,3] [0,1,2,3,4] [zq [3,2] 4 10] [(_,_),(_,_),(_,_),(_,_),(_,_)] rfl ⟨z4 rfl rfl,zz⟩ ?_
   refine ht_seq ?_
   refine ht_cond _ rfl (fun hb38 => ?_) (fun hb38 => ?_)
   ·have h := cond_t hb38 h
    refine ht_skip ?_
    refine pt_then (ht_seq ?_)
    refine ht_joinS h (fun (s40 : Int) => [(7,.fr .shr true 11 (flatten (map T_Item.ienc s.Items))),(8,vi (s.Items.length : Int)),(9,vi s23),(3,vi s40)]) ?_ ?_
    ·rintro s40 h
     refine pt_then ?_
     obtain ⟨v12, hv12, h⟩ := zn h
     refine zg hn [_,_,_,_,(17,vi v12),(9,vi v12)] [0,1,2,3] [0,1,3,5] [zq [2] 4 17,⟨[4],[2],[5],[(.slot 9)]⟩] [(_,_),(_,_),(_,_),(_,_)] rfl ⟨zp rfl (oB rfl (ibind (f := int .i64) (Option.some.inj hv12))),zp rfl (LOp.drop [_] (oM rfl)),zz⟩ ?_
     refine pt_pick [2,0,1,3] (by kernel_rfl) (es' := [(_,_),(_,_),(_,_),(_,_)]) rfl ?_
     exact pt_next _ (zi h).symm rfl
    ·intro u41 h hl42 hr43
     refine ht_block ?_
     refine ht_seq ?_
     obtain ⟨v2, hv2, h⟩ := zn h
     obtain ⟨v3, hv3, h⟩ := zn h
     refine zg hn [_,_,_,_,_,(11,.eref (.slot 7) (v2 * 11)),(12,.agg (T_Item.c v3 [])),(5,.box 75 [vi 0,vb false,vs z0,vs z0,vz,vz,vb false,vs z0,vi 0,vi 0,vi 0]),(5,.box 75 (T_Item.c v3 []))] [0,1,2,3,4] [0,1,2,3,8] [zq [1,3] 5 11,zq [5,1] 6 12,zq [] 7 5,⟨[6],[7],[8],[.cell 5 0,.cell 5 1,.cell 5 2,.cell 5 3,.cell 5 4,.cell 5 5,.cell 5 6,.cell 5 7,.cell 5 8,.cell 5 9,.cell 5 10]⟩] [(_,_),(_,_),(_,_),(_,_),(_,_)] rfl ⟨zp rfl (op_ix_fr _ _ _ _ _ _ _ _ underlying41 sz75 (by decide) rfl rfl rfl (ix_ok hv2).1 (gflat_lt T_Item.ilen (ix_ok hv2).2) rfl),zp rfl (op_loadA_fr _ _ _ _ _ _ _ _ underlying75 rfl sz75 rfl rfl (gflat_get T_Item.ilen hv3) (.cons (.v _) (.cons (.v _) (.cons (.v _) (.cons (.v _) (.cons (.fl _ _ rfl) (.cons (.fl _ _ rfl) (.cons (.v _) (.cons (.v _) (.cons (.v _) (.cons (.v _) (.cons (.v _) (.nil)))))))))))) rfl (by decide)),zp rfl (op_alloc _ _ zr75),zp rfl (oS sz75 rfl),zz⟩ ?_
     refine pt_then (ht_seq ?_)
     obtain ⟨v4, hv4, h⟩ := zn h
     refine zg hn [_,_,_,_,_,(13,.agg (T_Item.c v3 [])),(14,vb v4)] [0,1,2,3,4] [0,1,2,3,6] [zq [4] 5 13,zq [5] 6 14] [(_,_),(_,_),(_,_),(_,_),(_,_)] rfl ⟨zp rfl (op_loadA _ _ _ _ _ _ _ underlying75 rfl sz75 rfl rfl (zl rfl) rfl rfl),zp rfl (op_call _ _ 35 _ _ rfl call35 rfl (ok_tally_waits ((T_Item.mk v3.Id ((T_Mail.mk (T_Path.mk v3.Mail.From.Null v3.Mail.From.Local v3.Mail.From.Domain) v3.Mail.To v3.Mail.Body v3.Mail.Quiet v3.Mail.Helo v3.Mail.At)) v3.State v3.Pack)) _ hv4) rfl rfl),zz⟩ ?_
     refine pt_then ?_
     refine ht_cond _ rfl (fun hb44 => ?_) (fun hb44 => ?_)
     ·have h := cond_t hb44 h
      obtain ⟨v6, hv6, h⟩ := zn h
      refine zg hn [_,_,_,_,_,(15,vi s22),(16,vi v6),(3,vi v6)] [0,1,2,3,4] [1,2,3,7] [zq [0] 5 15,zq [5] 6 16,⟨[6],[0],[7],[(.slot 3)]⟩] [(_,_),(_,_),(_,_),(_,_)] rfl ⟨z1 rfl,zp rfl (oB rfl (ibind (f := int .i64) (Option.some.inj hv6))),zp rfl (LOp.drop [_] (op_assign _ _ _ _ rfl rfl)),zz⟩ ?_
      refine pt_inb ?_
      exact hl42 _ (zi h).symm
     ·have h := cond_f hb44 h
      refine ht_skip ?_
      refine pt_inb ?_
      refine pt_pick [1,2,3,0] (by kernel_rfl) (es' := [(_,_),(_,_),(_,_),(_,_)]) rfl ?_
      exact hl42 _ (zi h).symm
   ·have h := cond_f hb38 h
    refine ht_exit ?_
    refine pt_x_then ?_
    refine pt_x_then ?_
    refine pt_x_in ?_
    refine pt_pick [0] (by kernel_rfl) (es' := [(_,_)]) rfl ?_
    exact hl33 _ (ho35 _ (zi h).symm).symm
theorem ok_bytes_Equal (a : (List Int)) (b : (List Int)) (r : Bool) (h : Sh.bytes_Equal a b = some r) : FnOK Tryd.prog 26 [.fl .shr 1 (map (int .u8) a), .fl .shr 1 (map (int .u8) b)] (.v (.bool r)) := by
  unfold Sh.bytes_Equal at h
  refine fn_ok func26 rfl (zl rfl) rfl rfl fun g0 hn hio => ?_
  refine zgg hn [_,_,(4,vb false)] [0,1] [0,1] [zq [] 2 4] [(_,_),(_,_)] rfl ⟨z2 rfl,zz⟩ ?_
  refine ht_seq ?_
  obtain ⟨v1, hv1, h⟩ := zn h
  obtain ⟨v2, hv2, h⟩ := zn h
  refine zg hn [_,_,(5,fb a),(6,vs v1),(7,fb b),(8,vs v2),(9,vb (v1.toList == v2.toList)),(4,vb (v1.toList == v2.toList))] [0,1] [7] [zq [0] 2 5,zq [2] 3 6,zq [1] 4 7,zq [4] 5 8,zq [3,5] 6 9,zq [6] 7 4] [(_,_)] rfl ⟨z1 rfl,zp rfl ((Option.some.inj hv1) ▸ op_bytes_str _ _ _ a underlying25 underlying9 underlying5 rfl),z1 rfl,zp rfl ((Option.some.inj hv2) ▸ op_bytes_str _ _ _ b underlying25 underlying9 underlying5 rfl),z4 rfl rfl,z2 rfl,zz⟩ ?_
  refine pt_then (ht_ret ?_)
  obtain rfl := zi h
  exact pt_ret hio rfl (.tmp _ _ .nil) rfl rfl
theorem ok_dots_lines (b : (List Int)) (r : (List Int)) (h : Sh.dots_lines b = some r) : FnOK Tryd.prog 64 [.fl .shr 1 (map (int .u8) b)] (.cloB 73 [.box 25 [.fl .shr 1 (map (int .u8) r)]]) := by
  unfold Sh.dots_lines at h
  refine fn_ok func64 rfl (zl rfl) rfl rfl fun g0 hn hio => ?_
  refine zgg hn [_,(1,.box 25 [fb b]),(2,.v (.nilFunc))] [0] [1] [zq [0] 1 1,zq [] 2 2] [(_,_)] rfl ⟨zp rfl (op_box _ _ _ _ rfl rfl rfl),z2 rfl,zz⟩ ?_
  refine zgg hn [_,(3,.cloB 73 [.box 25 [fb b]]),(2,.cloB 73 [.box 25 [fb b]])] [0] [2] [⟨[],[0],[1],[(.slot 3)]⟩,⟨[],[1],[2],[(.slot 2)]⟩] [(_,_)] rfl ⟨zp rfl (op_mkclo _ _ [1] [.box 25 [fb b]] rfl rfl rfl),zp rfl (op_assign_take _ _ _ _ rfl),zz⟩ ?_
  refine ht_ret ?_
  obtain rfl := zi h
  exact pt_ret hio rfl (.tmp _ _ .nil) rfl rfl
theorem ok_bytes_Index (mx : Int) (s sep : List Int) (r : Int) (h : Sh.bytes_Index s sep = some r) : FnG Tryd.prog (GL mx) 86 [.fl .shr 1 (map (int .u8) s), .fl .shr 1 (map (int .u8) sep)] (.v (.int .i64 r)) :=
  lib_bytes_Index (gl_mem0 mx) Tryd.bytes_Index_at Tryd.bytes_Index_longer s sep r h
theorem ok_bytes_Cut_sh (mx : Int) (s : (List Int)) (sep : (List Int)) (r : ((List Int) × (List Int) × Bool)) (h : Sh.bytes_Cut_sh s sep = some r) : FnG Tryd.prog (GL mx) 74 [.fl .shr 1 (map (int .u8) s), .fl .shr 1 (map (int .u8) sep)] (.tup [.fl .shr 1 (map (int .u8) r.1), .fl .shr 1 (map (int .u8) r.2.1), .v (.bool r.2.2)]) := by
  unfold Sh.bytes_Cut_sh at h
  refine fn_okG func74 rfl (zl rfl) rfl rfl fun g0 hn hio => ?_
  refine zgg hn [_,_,_,(4,vz),(5,vz),(6,vb false)] [0,1,2] [0,1,2] [zq [] 3 4,zq [] 4 5,zq [] 5 6] [(_,_),(_,_),(_,_)] rfl ⟨z2 rfl,z2 rfl,z2 rfl,zz⟩ ?_
  refine ht_seq ?_
  refine ht_seq ?_
  obtain ⟨v1, hv1, h⟩ := zn h
  refine zg hn [_,_,_,(8,fb s),(9,fb sep),(10,vi v1),(7,vi v1)] [0,1,2] [0,1,2,6] [zq [0] 3 8,zq [1] 4 9,zq [3,4,2] 5 10,zq [5] 6 7] [(_,_),(_,_),(_,_),(_,_)] rfl ⟨z1 rfl,z1 rfl,zp rfl (op_callG _ _ 23 86 _ _ rfl call86 rfl rfl (fun _ h => h) (ok_bytes_Index mx s sep _ hv1) rfl rfl),z2 rfl,zz⟩ ?_
  refine pt_then ?_
  refine zgg hn [_,_,_,_,(11,vi v1),(12,vb (decide (0 ≤ v1)))] [0,1,2,3] [0,1,2,3,5] [zq [3] 4 11,zq [4] 5 12] [(_,_),(_,_),(_,_),(_,_),(_,_)] rfl ⟨z1 rfl,z4 rfl rfl,zz⟩ ?_
  refine ht_cond _ rfl (fun hb2 => ?_) (fun hb2 => ?_)
  ·have h := cond_t hb2 h
   refine ht_seq ?_
   obtain ⟨v3, hv3, h⟩ := zn h
   obtain ⟨v4, hv4, h⟩ := zn h
   obtain ⟨v5, hv5, h⟩ := zn h
   refine ht_anyR (by kernel_rfl) hn (El := (_ :: _ :: _ :: _ :: _ :: (13,fb s) :: (14,vi v1) :: (15,fb v3) :: (16,fb s) :: (17,vi v1) :: (18,fb sep) :: (19,vi (sep.length : Int)) :: (20,vi v4) :: (21,fb v5) :: (4,fb v3) :: (5,fb v5) :: (6,vb true) :: [])) (init := [0,1,2,3,4]) (fin := [2,14,15,16]) (sps := [zq [0] 5 13,zq [3] 6 14,zq [5,6] 7 15,zq [0] 8 16,zq [3] 9 17,zq [1] 10 18,zq [10] 11 19,zq [9,11] 12 20,zq [8,12] 13 21,zq [7] 14 4,zq [13] 15 5,zq [] 16 6]) (es' := [(_,_),(4,fb v3),(5,fb v5),(6,vb true)]) (by kernel_rfl) rfl rfl ⟨z1 rfl,z1 rfl,zp rfl (op_sl _ _ _ 0 v1 _ underlying25 sz5 rfl rfl rfl ⟨_,rfl⟩ hv3),z1 rfl,z1 rfl,z1 rfl,zp rfl (op_len_fl _ _ _ underlying25 rfl (by decide) (map_len _)),zp rfl (oB rfl (ibind (f := int .i64) (Option.some.inj hv4))),zp rfl (op_sl _ _ _ v4 (s.length : Int) _ underlying25 sz5 rfl rfl ⟨_,rfl⟩ rfl hv5),z2 rfl,z2 rfl,z2 rfl,zz⟩ ?_
   refine pt_then (ht_ret ?_)
   refine pt_pick [1,2,3] (by kernel_rfl) (es' := [(_,_),(_,_),(_,_)]) rfl ?_
   refine pt_r_then ?_
   obtain rfl := zi h
   exact pt_ret hio rfl (.tmp _ _ (.tmp _ _ (.tmp _ _ .nil))) rfl rfl
  ·have h := cond_f hb2 h
   refine ht_skip ?_
   refine pt_then ?_
   refine zgg hn [_,_,_,_,_,(22,fb s),(4,fb s),(5,vz),(6,vb false)] [0,1,2,3,4] [2,6,7,8] [zq [0] 5 22,zq [5] 6 4,zq [] 7 5,zq [] 8 6] [(_,_),(_,_),(_,_),(_,_)] rfl ⟨z1 rfl,z2 rfl,z2 rfl,z2 rfl,zz⟩ ?_
   refine ht_ret ?_
   refine pt_pick [1,2,3] (by kernel_rfl) (es' := [(_,_),(_,_),(_,_)]) rfl ?_
   refine pt_sub (fs := [(4,fb s),(5,fb []),(6,vb false)]) (.same _ (.sub _ (sub_nil_shr 1) rfl (.same _ .nil))) ?_
   obtain rfl := zi h
   exact pt_ret hio rfl (.tmp _ _ (.tmp _ _ (.tmp _ _ .nil))) rfl rfl
theorem ok_dots_lines_1 (mx : Int) (l : Nat) {S : Type} (J : S → InvT) (Y : (List Int) → S → Option (S × Bool)) (hY : YieldOK Tryd.prog l (fun x => .fl .shr 1 (map (int .u8) x)) Y J) (c0 : (List Int)) (st r : S) (h : Sh.dots_lines_1 Y c0 st = some r) : FnI Tryd.prog (GL mx) 73 l [.box 25 [.fl .shr 1 (map (int .u8) c0)]] (J st) (J r) := by
  unfold Sh.dots_lines_1 at h
  refine fn_okI func73 rfl (zl rfl) rfl fun g0 hn hio => ?_
  refine ht_loopS h (fun ((s17,s18) : (List Int) × S) => [(0,.v (.func (.yield l) #[] #[])),(1,.box 25 [fb s17]),(23,.glob (GL mx)),(24,.inv (J s18))]) (fun (() : Unit) => []) ?_ ?_
  ·rintro ⟨⟩ h
   cases h
  ·rintro u25 hl26 hr27 ⟨s17, s18⟩ rr30 h ho28
   refine ht_block ?_
   refine ht_seq ?_
   obtain ⟨v1, hv1, h⟩ := zn h
   refine zg hn (_::_::_::_::(7,fb s17)::(8,.fl (.own 5) 1 (map (int .u8) [13,10]))::(9,.fl .ro 1 (map (int .u8) [13,10]))::(10,.tup [fb v1.1,fb v1.2.1,vb v1.2.2])::(6,.tup [fb v1.1,fb v1.2.1,vb v1.2.2])::(11,fb v1.1)::(12,fb v1.2.1)::(13,vb v1.2.2)::(3,fb v1.1)::(4,fb v1.2.1)::(5,vb v1.2.2)::[]) [0,1,2,3] [0,1,2,3,12,13,14] [zq [1] 4 7,zq [] 5 8,⟨[],[5],[6],[(.slot 9)]⟩,zq [4,6,2] 7 10,⟨[],[7],[8],[(.slot 6)]⟩,zq [8] 9 11,zq [8] 10 12,zq [8] 11 13,zq [9] 12 3,zq [10] 13 4,zq [11] 14 5] [(_,_),(_,_),(_,_),(_,_),(_,_),(_,_),(_,_)] rfl ⟨zp rfl (oL underlying25 rfl),zp rfl (op_buildSlice _ _ 1 (.int .u8 0) (map (int .u8) [13, 10]) [(0, .int .u8 13), (1, .int .u8 10)] underlying25 sz5 zr5 (fun _ V w o a hv hes => by simp only [List.map_toArray, List.map_cons, List.map_nil]; try rfl) (litfill (by simp [Instr.fill, Value.cells]; rfl) (by simp [List.range, List.range.loop] <;> rfl)) (by simp [Value.oneCell']) rfl (by decide) (by decide) (by decide)),zp rfl (op_conv_mark _ _ _ underlying25 underlying5 (by intro h; cases h)),zp rfl (op_callSG _ _ 23 74 _ _ rfl call74 rfl rfl rfl (fun _ h => h) (ok_bytes_Cut_sh mx s17 [13, 10] _ hv1) rfl),zp rfl (op_move_take _ _ _ _ rfl),zp rfl (oE rfl),zp rfl (oE rfl),zp rfl (oE rfl),z2 rfl,z2 rfl,z2 rfl,zz⟩ ?_
   refine pt_then (ht_seq ?_)
   refine ht_seq ?_
   refine ht_joinS h (fun ((s31,s32) : S × Bool) => [(0,.v (.func (.yield l) #[] #[])),(1,.box 25 [fb s17]),(23,.glob (GL mx)),(24,.inv (J s31)),(4,fb v1.2.1),(21,vb s32)]) ?_ ?_
   ·rintro ⟨s31, s32⟩ h
    refine pt_then ?_
    refine ht_cond _ rfl (fun hb36 => ?_) (fun hb36 => ?_)
    ·have h := cond_t hb36 h
     refine ht_ret ?_
     refine pt_pick [3] (by kernel_rfl) (es' := [(24,.inv (J s31))]) rfl ?_
     refine pt_r_then ?_
     refine pt_r_in ?_
     refine pt_r_then ?_
     refine pt_r_in ?_
     have h := hr27 _ (ho28 _ (zi h).symm).symm
     obtain rfl := zi h
     exact pt_retI hio rfl rfl rfl
    ·have h := cond_f hb36 h
     refine ht_skip ?_
     refine pt_then ?_
     refine zg hn [_,_,_,_,_,_,(22,fb v1.2.1),(1,.box 25 [fb v1.2.1])] [0,1,2,3,4,5] [0,7,2,3] [zq [4] 6 22,⟨[6],[1],[7],[.cell 1 0]⟩] [(_,_),(_,_),(_,_),(_,_)] rfl ⟨z1 rfl,zp rfl (oS sz25 rfl),zz⟩ ?_
     refine pt_inb ?_
     exact pt_next _ (zi h).symm rfl
   ·intro u33 h hl34 hr35
    refine cond_some h (fun hg1_2 h => ?_) (fun hg1_2 h => ?_)
    ·refine zg hn (_::_::_::_::_::_::_::(14,vb v1.2.2)::(15,vb (!v1.2.2))::(16,vb true)::(17,.v undef)::(18,.v undef)::(19,.v undef)::(20,.v undef)::(21,vb true)::[]) [0,1,2,3,4,5,6] [0,1,2,3,5,14] [zq [6] 7 14,zq [7] 8 15,zq [8] 9 16,zq [9] 10 17,zq [9] 11 18,zq [9] 12 19,zq [9] 13 20,zq [9] 14 21] [(_,_),(_,_),(_,_),(_,_),(_,_),(_,_)] rfl ⟨z1 rfl,zp rfl (op_un _ _ _ _ rfl rfl),z8 hg1_2 rfl,zf rfl,zf rfl,zf rfl,zf rfl,z3 true rfl,zz⟩ ?_
     exact hl34 _ (zi h).symm
    ·obtain ⟨v2, hv2, h⟩ := zn h
     refine zg hn (_::_::_::_::_::_::_::(14,vb v1.2.2)::(15,vb (!v1.2.2))::(16,vb false)::(17,.v (.func (.yield l) #[] #[]))::(18,fb v1.1)::(19,vb v2.2)::(24,.inv (J v2.1))::(20,vb (!v2.2))::(21,vb (!v2.2))::[]) [0,1,2,3,4,5,6] [0,1,2,13,5,15] [zq [6] 7 14,zq [7] 8 15,zq [8] 9 16,zq [9,0] 10 17,zq [9,4] 11 18,⟨[9,11,10],[3],[13,12],[(.slot 19)]⟩,zq [9,12] 14 20,zq [9,14] 15 21] [(_,_),(_,_),(_,_),(_,_),(_,_),(_,_)] rfl ⟨z1 rfl,zp rfl (op_un _ _ _ _ rfl rfl),z8 hg1_2 rfl,zr' rfl (oM rfl),zr' rfl (oM rfl),zr' rfl (op_yield _ _ 24 l v1.1 s18 v2 hY hv2 rfl rfl rfl),zr' rfl (op_un _ _ _ _ rfl rfl),z3 false rfl,zz⟩ ?_
     exact hl34 _ (zi h).symm
theorem ok_dots_Lines (mx : Int) (b : (List Int)) (r : (List (List Int))) (h : Sh.dots_Lines b = some r) : FnG Tryd.prog (GL mx) 55 [.fl .shr 1 (map (int .u8) b)] (.fr .ro false 1 (flatten (map Row_int_u8.ienc r))) := by
  unfold Sh.dots_Lines at h
  refine fn_okG func55 rfl (zl rfl) rfl rfl fun g0 hn hio => ?_
  refine zgg hn [_,_,(2,vz)] [0,1] [0,1] [zq [] 2 2] [(_,_),(_,_)] rfl ⟨z2 rfl,zz⟩ ?_
  refine zgg hn [_,_,(3,.box 99 [vz])] [0,1] [0,1,2] [zq [] 2 3] [(_,_),(_,_),(_,_)] rfl ⟨zp rfl (op_alloc _ _ zr99),zz⟩ ?_
  refine ht_seq ?_
  refine ht_seq ?_
  obtain ⟨v1, hv1, h⟩ := zn h
  refine zg hn [_,_,_,(5,fb b),(6,.cloB 73 [.box 25 [fb v1]])] [0,1,2] [1,2,4] [zq [0] 3 5,zq [3] 4 6] [(_,_),(_,_),(_,_)] rfl ⟨z1 rfl,zp rfl (op_callS _ _ 64 _ _ rfl call64 rfl rfl (ok_dots_lines b _ hv1) rfl),zz⟩ ?_
  refine pt_then ?_
  refine ht_block ?_
  refine ht_pick [2,0,1] (by kernel_rfl) (es' := [(6,.cloB 73 [.box 25 [fb v1]]),(14,.glob (GL mx)),(3,.box 99 [vz])]) rfl ?_
  refine ht_sub (fs := [(6,.cloB 73 [.box 25 [fb v1]]),(14,.glob (GL mx)),(3,.box 99 [.fr (.own 25) false 1 (flatten (map Row_int_u8.ienc []))])]) (.same _ (.same _ (.box _ _ (subs_cons (sub_nil_fr 25 false 1) (subs_nil)) rfl .nil))) ?_
  refine ht_rangeF h 73 6 7 15 _ [14, 3] call73 (fun (s7 : (List (List Int))) => [(14, .glob (GL mx)), (3, .box 99 [.fr (.own 25) false 1 (flatten (map Row_int_u8.ienc s7))])]) (fun (() : Unit) => []) (fun l J Y hY t t' h => ok_dots_lines_1 mx l J Y hY v1 t t' h) hn rfl (fun _ => rfl) (fun _ => rfl) (fun _ => rfl) rfl rfl (fun _ => ⟨rfl, rfl⟩) rfl (glIn_look 14 rfl) ?_ ?_ ?_
  ·rintro kk g0 hn hio x s7 u h
   refine ht_es (es' := [(7,fb x),(14,.glob (GL mx)),(3,.box 99 [.fr (.own 25) false 1 (flatten (map Row_int_u8.ienc s7))]),(14,.v (kk.tm.getD 14 undef)),(3,.v (kk.tm.getD 3 undef)),(15,.inv kk.ready)]) rfl ?_
   refine zg hn [_,_,_,_,_,_,(4,fb x)] [0,1,2,3,4,5] [1,2,3,4,5,6] [zq [0] 6 4] [(_,_),(_,_),(_,_),(_,_),(_,_),(_,_)] rfl ⟨z2 rfl,zz⟩ ?_
   refine pt_pick [0,1,2,3,5,4] (by kernel_rfl) (es' := [(14,.glob (GL mx)),(3,.box 99 [.fr (.own 25) false 1 (flatten (map Row_int_u8.ienc s7))]),(14,.v (kk.tm.getD 14 undef)),(3,.v (kk.tm.getD 3 undef)),(4,fb x),(15,.inv kk.ready)]) rfl ?_
   refine pt_begin (es := [(14,.glob (GL mx)),(3,.box 99 [.fr (.own 25) false 1 (flatten (map Row_int_u8.ienc s7))]),(14,.v (kk.tm.getD 14 undef)),(3,.v (kk.tm.getD 3 undef)),(4,fb x)]) 15 rfl ?_
   refine ht_block ?_
   obtain ⟨v2, hv2, h⟩ := zn h
   obtain ⟨v3, hv3, h⟩ := zn h
   refine ht_anyR (by kernel_rfl) hn (El := [_,_,_,_,_,_,(8,.same (.cell 3 0)),(9,fb x),(10,.fl .ro 1 (map (int .u8) v2)),(11,.fr (.own 25) false 1 (flatten (map Row_int_u8.ienc [v2]))),(12,.fr (.own 25) false 1 (flatten (map Row_int_u8.ienc v3))),(3,.box 99 [.any]),(3,.box 99 [.fr (.own 25) false 1 (flatten (map Row_int_u8.ienc v3))])]) (init := [0,1,2,3,4,5]) (fin := [0,12,2,3,5]) (sps := [zq [1] 6 8,zq [4] 7 9,zq [7] 8 10,zq [8] 9 11,⟨[6,9],[1],[11,10],[(.slot 12)]⟩,⟨[],[6,10,11],[12],[.cell 3 0]⟩]) (es' := [(_,_),(3,.box 99 [.fr (.own 25) false 1 (flatten (map Row_int_u8.ienc v3))]),(_,_),(_,_),(_,_)]) (by kernel_rfl) rfl rfl ⟨zp rfl (oL underlying99 rfl),z1 rfl,zp rfl (LOp.frzG 0 (op_app_nil _ _ _ _ el25 rfl rfl (map_len _) hv2 (congrArg (map _) (app_nil_eq hv2))) (zl rfl) rfl),zp rfl (op_build1_fr _ _ _ 1 (.slice none 0 0) false _ _ underlying99 sz25 zr25 rfl rfl (.cons (.ro _ _ rfl) (.nil)) rfl (by decide) (by decide)),zp rfl (op_app_fr_cell _ 12 3 0 _ _ el99 rfl rfl (zl rfl) rfl (gflat_len Row_int_u8.ilen _) (gflat_len Row_int_u8.ilen _) hv3 (gflat_app (app_eq hv3)) (by decide) (by decide) (by decide) rfl rfl),zp rfl (LOp.drop [_] (op_store_take _ _ _ _ _ _ _ _ sz99 rfl rfl rfl (zl rfl) rfl rfl)),zz⟩ ?_
   refine pt_inb ?_
   obtain rfl := zi h
   exact pt_rnext 15 [14, 3] _ rfl rfl (by kernel_rfl)
  ·rintro D s7 h
   refine pt_inb ?_
   refine pt_then (ht_seq ?_)
   refine ht_frz 1 hio (es' := [(14, .glob (GL mx)), (3, .box 99 [.fr .ro false 1 (flatten (map Row_int_u8.ienc s7))])]) rfl ?_
   refine zg hn [_,_,(13,.fr .ro false 1 (flatten (map Row_int_u8.ienc s7))),(2,.fr .ro false 1 (flatten (map Row_int_u8.ienc s7)))] [0,1] [0,3] [zq [1] 2 13,zq [2] 3 2] [(_,_),(_,_)] rfl ⟨zp rfl (oL underlying99 rfl),z2 rfl,zz⟩ ?_
   refine pt_then (ht_ret ?_)
   refine pt_pick [1] (by kernel_rfl) (es' := [(_,_)]) rfl ?_
   obtain rfl := zi h
   exact pt_ret hio rfl (.tmp _ _ .nil) rfl rfl
  ·rintro D ⟨⟩ h
   cases h
theorem ok_internal_stringslite_HasPrefix (s : ByteArray) (prefix_ : ByteArray) (r : Bool) (h : Sh.internal_stringslite_HasPrefix s prefix_ = some r) : FnOK Tryd.prog 75 [.v (.string s), .v (.string prefix_)] (.v (.bool r)) := by
  unfold Sh.internal_stringslite_HasPrefix at h
  refine fn_ok func75 rfl (zl rfl) rfl rfl fun g0 hn hio => ?_
  refine zgg hn [_,_,(4,vb false)] [0,1] [0,1] [zq [] 2 4] [(_,_),(_,_)] rfl ⟨z2 rfl,zz⟩ ?_
  refine ht_seq ?_
  refine ht_joinS h (fun (s2 : Bool) => [(4,vb s2)]) ?_ ?_
  ·rintro s2 h
   refine pt_then (ht_ret ?_)
   obtain rfl := zi h
   exact pt_ret hio rfl (.tmp _ _ .nil) rfl rfl
  ·intro u3 h hl4 hr5
   refine cond_some h (fun hg1_5 h => ?_) (fun hg1_5 h => ?_)
   ·obtain ⟨v1, hv1, h⟩ := zn h
    refine zg hn (_::_::(5,vs s)::(6,vi (s.size : Int))::(7,vs prefix_)::(8,vi (prefix_.size : Int))::(9,vb (decide ((prefix_.size : Int) ≤ (s.size : Int))))::(10,vb true)::(11,vs s)::(12,vs prefix_)::(13,vi (prefix_.size : Int))::(14,vs v1)::(15,vs prefix_)::(16,vb (v1.toList == prefix_.toList))::(17,vb (v1.toList == prefix_.toList))::(4,vb (v1.toList == prefix_.toList))::[]) [0,1] [15] [zq [0] 2 5,zq [2] 3 6,zq [1] 4 7,zq [4] 5 8,zq [3,5] 6 9,zq [6] 7 10,zq [7,0] 8 11,zq [7,1] 9 12,zq [7,9] 10 13,zq [7,8,10] 11 14,zq [7,1] 12 15,zq [7,11,12] 13 16,zq [7,13] 14 17,zq [14] 15 4] [(_,_)] rfl ⟨z1 rfl,zp rfl (oN underlying9 rfl),z1 rfl,zp rfl (oN underlying9 rfl),z4 rfl rfl,z8 hg1_5 rfl,zr' rfl (oM rfl),zr' rfl (oM rfl),zr' rfl (oN underlying9 rfl),zr' rfl (op_substr _ _ _ 0 (prefix_.size : Int) _ underlying9 rfl rfl ⟨_, rfl⟩ hv1),zr' rfl (oM rfl),zr' rfl (oB rfl rfl),z3 true rfl,z2 rfl,zz⟩ ?_
    exact hl4 _ (zi h).symm
   ·refine zg hn (_::_::(5,vs s)::(6,vi (s.size : Int))::(7,vs prefix_)::(8,vi (prefix_.size : Int))::(9,vb (decide ((prefix_.size : Int) ≤ (s.size : Int))))::(10,vb false)::(11,.v undef)::(12,.v undef)::(13,.v undef)::(14,.v undef)::(15,.v undef)::(16,.v undef)::(17,vb false)::(4,vb false)::[]) [0,1] [15] [zq [0] 2 5,zq [2] 3 6,zq [1] 4 7,zq [4] 5 8,zq [3,5] 6 9,zq [6] 7 10,zq [7] 8 11,zq [7] 9 12,zq [7] 10 13,zq [7] 11 14,zq [7] 12 15,zq [7] 13 16,zq [7] 14 17,zq [14] 15 4] [(_,_)] rfl ⟨z1 rfl,zp rfl (oN underlying9 rfl),z1 rfl,zp rfl (oN underlying9 rfl),z4 rfl rfl,z8 hg1_5 rfl,zt rfl,zt rfl,zt rfl,zt rfl,zt rfl,zt rfl,z3 false rfl,z2 rfl,zz⟩ ?_
    exact hl4 _ (zi h).symm
theorem ok_internal_stringslite_TrimPrefix (s : ByteArray) (prefix_ : ByteArray) (r : ByteArray) (h : Sh.internal_stringslite_TrimPrefix s prefix_ = some r) : FnOK Tryd.prog 65 [.v (.string s), .v (.string prefix_)] (.v (.string r)) := by
  unfold Sh.internal_stringslite_TrimPrefix at h
  refine fn_ok func65 rfl (zl rfl) rfl rfl fun g0 hn hio => ?_
  refine zgg hn [_,_,(4,vs z0)] [0,1] [0,1] [zq [] 2 4] [(_,_),(_,_)] rfl ⟨z2 rfl,zz⟩ ?_
  refine ht_seq ?_
  refine ht_seq ?_
  obtain ⟨v1, hv1, h⟩ := zn h
  refine zg hn [_,_,(5,vs s),(6,vs prefix_),(7,vb v1)] [0,1] [0,1,4] [zq [0] 2 5,zq [1] 3 6,zq [2,3] 4 7] [(_,_),(_,_),(_,_)] rfl ⟨z1 rfl,z1 rfl,zp rfl (op_call _ _ 75 _ _ rfl call75 rfl (ok_internal_stringslite_HasPrefix s prefix_ _ hv1) rfl rfl),zz⟩ ?_
  refine pt_then ?_
  refine ht_cond _ rfl (fun hb2 => ?_) (fun hb2 => ?_)
  ·have h := cond_t hb2 h
   refine ht_seq ?_
   obtain ⟨v3, hv3, h⟩ := zn h
   refine zg hn [_,_,_,(8,vs s),(9,vs prefix_),(10,vi (prefix_.size : Int)),(11,vs v3),(4,vs v3)] [0,1,2] [7] [zq [0] 3 8,zq [1] 4 9,zq [4] 5 10,zq [3,5] 6 11,zq [6] 7 4] [(_,_)] rfl ⟨z1 rfl,z1 rfl,zp rfl (oN underlying9 rfl),zp rfl (op_substr _ _ _ (prefix_.size : Int) (s.size : Int) _ underlying9 rfl ⟨_, rfl⟩ rfl hv3),z2 rfl,zz⟩ ?_
   refine pt_then (ht_ret ?_)
   refine pt_r_then ?_
   obtain rfl := zi h
   exact pt_ret hio rfl (.tmp _ _ .nil) rfl rfl
  ·have h := cond_f hb2 h
   refine ht_skip ?_
   refine pt_then ?_
   refine zgg hn [_,_,_,(12,vs s),(4,vs s)] [0,1,2] [4] [zq [0] 3 12,zq [3] 4 4] [(_,_)] rfl ⟨z1 rfl,z2 rfl,zz⟩ ?_
   refine ht_ret ?_
   obtain rfl := zi h
   exact pt_ret hio rfl (.tmp _ _ .nil) rfl rfl
theorem ok_strings_TrimPrefix (s : ByteArray) (prefix_ : ByteArray) (r : ByteArray) (h : Sh.strings_TrimPrefix s prefix_ = some r) : FnOK Tryd.prog 56 [.v (.string s), .v (.string prefix_)] (.v (.string r)) := by
  unfold Sh.strings_TrimPrefix at h
  refine fn_ok func56 rfl (zl rfl) rfl rfl fun g0 hn hio => ?_
  refine zgg hn [_,_,(4,vs z0)] [0,1] [0,1] [zq [] 2 4] [(_,_),(_,_)] rfl ⟨z2 rfl,zz⟩ ?_
  refine ht_seq ?_
  obtain ⟨v1, hv1, h⟩ := zn h
  refine zg hn [_,_,(5,vs s),(6,vs prefix_),(7,vs v1),(4,vs v1)] [0,1] [5] [zq [0] 2 5,zq [1] 3 6,zq [2,3] 4 7,zq [4] 5 4] [(_,_)] rfl ⟨z1 rfl,z1 rfl,zp rfl (op_call _ _ 65 _ _ rfl call65 rfl (ok_internal_stringslite_TrimPrefix s prefix_ _ hv1) rfl rfl),z2 rfl,zz⟩ ?_
  refine pt_then (ht_ret ?_)
  obtain rfl := zi h
  exact pt_ret hio rfl (.tmp _ _ .nil) rfl rfl
theorem ok_internal_stringslite_CutPrefix (s : ByteArray) (prefix_ : ByteArray) (r : (ByteArray × Bool)) (h : Sh.internal_stringslite_CutPrefix s prefix_ = some r) : FnOK Tryd.prog 76 [.v (.string s), .v (.string prefix_)] (.tup [.v (.string r.1), .v (.bool r.2)]) := by
  unfold Sh.internal_stringslite_CutPrefix at h
  refine fn_ok func76 rfl (zl rfl) rfl rfl fun g0 hn hio => ?_
  refine zgg hn [_,_,(4,vs z0),(5,vb false)] [0,1] [0,1] [zq [] 2 4,zq [] 3 5] [(_,_),(_,_)] rfl ⟨z2 rfl,z2 rfl,zz⟩ ?_
  refine ht_seq ?_
  refine ht_seq ?_
  obtain ⟨v1, hv1, h⟩ := zn h
  refine zg hn [_,_,(6,vs s),(7,vs prefix_),(8,vb v1),(9,vb (!v1))] [0,1] [0,1,5] [zq [0] 2 6,zq [1] 3 7,zq [2,3] 4 8,zq [4] 5 9] [(_,_),(_,_),(_,_)] rfl ⟨z1 rfl,z1 rfl,zp rfl (op_call _ _ 75 _ _ rfl call75 rfl (ok_internal_stringslite_HasPrefix s prefix_ _ hv1) rfl rfl),zp rfl (op_un _ _ _ _ rfl rfl),zz⟩ ?_
  refine pt_then ?_
  refine ht_cond _ rfl (fun hb2 => ?_) (fun hb2 => ?_)
  ·have h := cond_t hb2 h
   refine zgg hn [_,_,_,(10,vs s),(4,vs s),(5,vb false)] [0,1,2] [4,5] [zq [0] 3 10,zq [3] 4 4,zq [] 5 5] [(_,_),(_,_)] rfl ⟨z1 rfl,z2 rfl,z2 rfl,zz⟩ ?_
   refine ht_ret ?_
   refine pt_r_then ?_
   obtain rfl := zi h
   exact pt_ret hio rfl (.tmp _ _ (.tmp _ _ .nil)) rfl rfl
  ·have h := cond_f hb2 h
   refine ht_skip ?_
   refine pt_then (ht_seq ?_)
   obtain ⟨v3, hv3, h⟩ := zn h
   refine zg hn [_,_,_,(11,vs s),(12,vs prefix_),(13,vi (prefix_.size : Int)),(14,vs v3),(4,vs v3),(5,vb true)] [0,1,2] [7,8] [zq [0] 3 11,zq [1] 4 12,zq [4] 5 13,zq [3,5] 6 14,zq [6] 7 4,zq [] 8 5] [(_,_),(_,_)] rfl ⟨z1 rfl,z1 rfl,zp rfl (oN underlying9 rfl),zp rfl (op_substr _ _ _ (prefix_.size : Int) (s.size : Int) _ underlying9 rfl ⟨_, rfl⟩ rfl hv3),z2 rfl,z2 rfl,zz⟩ ?_
   refine pt_then (ht_ret ?_)
   obtain rfl := zi h
   exact pt_ret hio rfl (.tmp _ _ (.tmp _ _ .nil)) rfl rfl
theorem ok_strings_CutPrefix (s : ByteArray) (prefix_ : ByteArray) (r : (ByteArray × Bool)) (h : Sh.strings_CutPrefix s prefix_ = some r) : FnOK Tryd.prog 66 [.v (.string s), .v (.string prefix_)] (.tup [.v (.string r.1), .v (.bool r.2)]) := by
  unfold Sh.strings_CutPrefix at h
  refine fn_ok func66 rfl (zl rfl) rfl rfl fun g0 hn hio => ?_
  refine zgg hn [_,_,(4,vs z0),(5,vb false)] [0,1] [0,1] [zq [] 2 4,zq [] 3 5] [(_,_),(_,_)] rfl ⟨z2 rfl,z2 rfl,zz⟩ ?_
  refine ht_seq ?_
  obtain ⟨v1, hv1, h⟩ := zn h
  refine zg hn [_,_,(6,vs s),(7,vs prefix_),(8,.tup [vs v1.1,vb v1.2]),(9,vs v1.1),(10,vb v1.2),(4,vs v1.1),(5,vb v1.2)] [0,1] [7,8] [zq [0] 2 6,zq [1] 3 7,zq [2,3] 4 8,zq [4] 5 9,zq [4] 6 10,zq [5] 7 4,zq [6] 8 5] [(_,_),(_,_)] rfl ⟨z1 rfl,z1 rfl,zp rfl (op_call _ _ 76 _ _ rfl call76 rfl (ok_internal_stringslite_CutPrefix s prefix_ _ hv1) rfl rfl),zp rfl (oE rfl),zp rfl (oE rfl),z2 rfl,z2 rfl,zz⟩ ?_
  refine pt_then (ht_ret ?_)
  obtain rfl := zi h
  exact pt_ret hio rfl (.tmp _ _ (.tmp _ _ .nil)) rfl rfl
theorem ok_internal_stringslite_HasSuffix (s : ByteArray) (suffix : ByteArray) (r : Bool) (h : Sh.internal_stringslite_HasSuffix s suffix = some r) : FnOK Tryd.prog 87 [.v (.string s), .v (.string suffix)] (.v (.bool r)) := by
  unfold Sh.internal_stringslite_HasSuffix at h
  refine fn_ok func87 rfl (zl rfl) rfl rfl fun g0 hn hio => ?_
  refine zgg hn [_,_,(4,vb false)] [0,1] [0,1] [zq [] 2 4] [(_,_),(_,_)] rfl ⟨z2 rfl,zz⟩ ?_
  refine ht_seq ?_
  refine ht_joinS h (fun (s3 : Bool) => [(4,vb s3)]) ?_ ?_
  ·rintro s3 h
   refine pt_then (ht_ret ?_)
   obtain rfl := zi h
   exact pt_ret hio rfl (.tmp _ _ .nil) rfl rfl
  ·intro u4 h hl5 hr6
   refine cond_some h (fun hg1_5 h => ?_) (fun hg1_5 h => ?_)
   ·obtain ⟨v1, hv1, h⟩ := zn h
    obtain ⟨v2, hv2, h⟩ := zn h
    refine zg hn (_::_::(5,vs s)::(6,vi (s.size : Int))::(7,vs suffix)::(8,vi (suffix.size : Int))::(9,vb (decide ((suffix.size : Int) ≤ (s.size : Int))))::(10,vb true)::(11,vs s)::(12,vs s)::(13,vi (s.size : Int))::(14,vs suffix)::(15,vi (suffix.size : Int))::(16,vi v1)::(17,vs v2)::(18,vs suffix)::(19,vb (v2.toList == suffix.toList))::(20,vb (v2.toList == suffix.toList))::(4,vb (v2.toList == suffix.toList))::[]) [0,1] [18] (zq [0] 2 5::zq [2] 3 6::zq [1] 4 7::zq [4] 5 8::zq [3,5] 6 9::zq [6] 7 10::zq [7,0] 8 11::zq [7,0] 9 12::zq [7,9] 10 13::zq [7,1] 11 14::zq [7,11] 12 15::zq [7,10,12] 13 16::zq [7,8,13] 14 17::zq [7,1] 15 18::zq [7,14,15] 16 19::zq [7,16] 17 20::zq [17] 18 4::[]) [(_,_)] rfl ⟨z1 rfl,zp rfl (oN underlying9 rfl),z1 rfl,zp rfl (oN underlying9 rfl),z4 rfl rfl,z8 hg1_5 rfl,zr' rfl (oM rfl),zr' rfl (oM rfl),zr' rfl (oN underlying9 rfl),zr' rfl (oM rfl),zr' rfl (oN underlying9 rfl),zr' rfl (oB rfl (ibind (f := int .i64) (Option.some.inj hv1))),zr' rfl (op_substr _ _ _ v1 (s.size : Int) _ underlying9 rfl ⟨_, rfl⟩ rfl hv2),zr' rfl (oM rfl),zr' rfl (oB rfl rfl),z3 true rfl,z2 rfl,zz⟩ ?_
    exact hl5 _ (zi h).symm
   ·refine zg hn (_::_::(5,vs s)::(6,vi (s.size : Int))::(7,vs suffix)::(8,vi (suffix.size : Int))::(9,vb (decide ((suffix.size : Int) ≤ (s.size : Int))))::(10,vb false)::(11,.v undef)::(12,.v undef)::(13,.v undef)::(14,.v undef)::(15,.v undef)::(16,.v undef)::(17,.v undef)::(18,.v undef)::(19,.v undef)::(20,vb false)::(4,vb false)::[]) [0,1] [18] (zq [0] 2 5::zq [2] 3 6::zq [1] 4 7::zq [4] 5 8::zq [3,5] 6 9::zq [6] 7 10::zq [7] 8 11::zq [7] 9 12::zq [7] 10 13::zq [7] 11 14::zq [7] 12 15::zq [7] 13 16::zq [7] 14 17::zq [7] 15 18::zq [7] 16 19::zq [7] 17 20::zq [17] 18 4::[]) [(_,_)] rfl ⟨z1 rfl,zp rfl (oN underlying9 rfl),z1 rfl,zp rfl (oN underlying9 rfl),z4 rfl rfl,z8 hg1_5 rfl,zt rfl,zt rfl,zt rfl,zt rfl,zt rfl,zt rfl,zt rfl,zt rfl,zt rfl,z3 false rfl,z2 rfl,zz⟩ ?_
    exact hl5 _ (zi h).symm
theorem ok_internal_stringslite_CutSuffix (s : ByteArray) (suffix : ByteArray) (r : (ByteArray × Bool)) (h : Sh.internal_stringslite_CutSuffix s suffix = some r) : FnOK Tryd.prog 77 [.v (.string s), .v (.string suffix)] (.tup [.v (.string r.1), .v (.bool r.2)]) := by
  unfold Sh.internal_stringslite_CutSuffix at h
  refine fn_ok func77 rfl (zl rfl) rfl rfl fun g0 hn hio => ?_
  refine zgg hn [_,_,(4,vs z0),(5,vb false)] [0,1] [0,1] [zq [] 2 4,zq [] 3 5] [(_,_),(_,_)] rfl ⟨z2 rfl,z2 rfl,zz⟩ ?_
  refine ht_seq ?_
  refine ht_seq ?_
  obtain ⟨v1, hv1, h⟩ := zn h
  refine zg hn [_,_,(6,vs s),(7,vs suffix),(8,vb v1),(9,vb (!v1))] [0,1] [0,1,5] [zq [0] 2 6,zq [1] 3 7,zq [2,3] 4 8,zq [4] 5 9] [(_,_),(_,_),(_,_)] rfl ⟨z1 rfl,z1 rfl,zp rfl (op_call _ _ 87 _ _ rfl call87 rfl (ok_internal_stringslite_HasSuffix s suffix _ hv1) rfl rfl),zp rfl (op_un _ _ _ _ rfl rfl),zz⟩ ?_
  refine pt_then ?_
  refine ht_cond _ rfl (fun hb2 => ?_) (fun hb2 => ?_)
  ·have h := cond_t hb2 h
   refine zgg hn [_,_,_,(10,vs s),(4,vs s),(5,vb false)] [0,1,2] [4,5] [zq [0] 3 10,zq [3] 4 4,zq [] 5 5] [(_,_),(_,_)] rfl ⟨z1 rfl,z2 rfl,z2 rfl,zz⟩ ?_
   refine ht_ret ?_
   refine pt_r_then ?_
   obtain rfl := zi h
   exact pt_ret hio rfl (.tmp _ _ (.tmp _ _ .nil)) rfl rfl
  ·have h := cond_f hb2 h
   refine ht_skip ?_
   refine pt_then (ht_seq ?_)
   obtain ⟨v3, hv3, h⟩ := zn h
   obtain ⟨v4, hv4, h⟩ := zn h
   refine zg hn [_,_,_,(11,vs s),(12,vs s),(13,vi (s.size : Int)),(14,vs suffix),(15,vi (suffix.size : Int)),(16,vi v3),(17,vs v4),(4,vs v4),(5,vb true)] [0,1,2] [10,11] [zq [0] 3 11,zq [0] 4 12,zq [4] 5 13,zq [1] 6 14,zq [6] 7 15,zq [5,7] 8 16,zq [3,8] 9 17,zq [9] 10 4,zq [] 11 5] [(_,_),(_,_)] rfl ⟨z1 rfl,z1 rfl,zp rfl (oN underlying9 rfl),z1 rfl,zp rfl (oN underlying9 rfl),zp rfl (oB rfl (ibind (f := int .i64) (Option.some.inj hv3))),zp rfl (op_substr _ _ _ 0 v3 _ underlying9 rfl rfl ⟨_, rfl⟩ hv4),z2 rfl,z2 rfl,zz⟩ ?_
   refine pt_then (ht_ret ?_)
   obtain rfl := zi h
   exact pt_ret hio rfl (.tmp _ _ (.tmp _ _ .nil)) rfl rfl
theorem ok_strings_CutSuffix (s : ByteArray) (suffix : ByteArray) (r : (ByteArray × Bool)) (h : Sh.strings_CutSuffix s suffix = some r) : FnOK Tryd.prog 67 [.v (.string s), .v (.string suffix)] (.tup [.v (.string r.1), .v (.bool r.2)]) := by
  unfold Sh.strings_CutSuffix at h
  refine fn_ok func67 rfl (zl rfl) rfl rfl fun g0 hn hio => ?_
  refine zgg hn [_,_,(4,vs z0),(5,vb false)] [0,1] [0,1] [zq [] 2 4,zq [] 3 5] [(_,_),(_,_)] rfl ⟨z2 rfl,z2 rfl,zz⟩ ?_
  refine ht_seq ?_
  obtain ⟨v1, hv1, h⟩ := zn h
  refine zg hn [_,_,(6,vs s),(7,vs suffix),(8,.tup [vs v1.1,vb v1.2]),(9,vs v1.1),(10,vb v1.2),(4,vs v1.1),(5,vb v1.2)] [0,1] [7,8] [zq [0] 2 6,zq [1] 3 7,zq [2,3] 4 8,zq [4] 5 9,zq [4] 6 10,zq [5] 7 4,zq [6] 8 5] [(_,_),(_,_)] rfl ⟨z1 rfl,z1 rfl,zp rfl (op_call _ _ 77 _ _ rfl call77 rfl (ok_internal_stringslite_CutSuffix s suffix _ hv1) rfl rfl),zp rfl (oE rfl),zp rfl (oE rfl),z2 rfl,z2 rfl,zz⟩ ?_
  refine pt_then (ht_ret ?_)
  obtain rfl := zi h
  exact pt_ret hio rfl (.tmp _ _ (.tmp _ _ .nil)) rfl rfl
theorem ok_internal_stringslite_Index (s sub : ByteArray) (r : Int) (h : Sh.strings_Index s sub = some r) : FnOK Tryd.prog 88 [.v (.string s), .v (.string sub)] (.v (.int .i64 r)) := lib_strings_Index Tryd.stringslite_Index_one s sub r h
theorem ok_internal_stringslite_Cut (s : ByteArray) (sep : ByteArray) (r : (ByteArray × ByteArray × Bool)) (h : Sh.internal_stringslite_Cut s sep = some r) : FnOK Tryd.prog 78 [.v (.string s), .v (.string sep)] (.tup [.v (.string r.1), .v (.string r.2.1), .v (.bool r.2.2)]) := by
  unfold Sh.internal_stringslite_Cut at h
  refine fn_ok func78 rfl (zl rfl) rfl rfl fun g0 hn hio => ?_
  refine zgg hn [_,_,(4,vs z0),(5,vs z0),(6,vb false)] [0,1] [0,1] [zq [] 2 4,zq [] 3 5,zq [] 4 6] [(_,_),(_,_)] rfl ⟨z2 rfl,z2 rfl,z2 rfl,zz⟩ ?_
  refine ht_seq ?_
  refine ht_seq ?_
  obtain ⟨v1, hv1, h⟩ := zn h
  refine zg hn [_,_,(8,vs s),(9,vs sep),(10,vi v1),(7,vi v1)] [0,1] [0,1,5] [zq [0] 2 8,zq [1] 3 9,zq [2,3] 4 10,zq [4] 5 7] [(_,_),(_,_),(_,_)] rfl ⟨z1 rfl,z1 rfl,zp rfl (op_call _ _ 88 _ _ rfl call88 rfl (ok_internal_stringslite_Index s sep _ hv1) rfl rfl),z2 rfl,zz⟩ ?_
  refine pt_then ?_
  refine zgg hn [_,_,_,(11,vi v1),(12,vb (decide (0 ≤ v1)))] [0,1,2] [0,1,2,4] [zq [2] 3 11,zq [3] 4 12] [(_,_),(_,_),(_,_),(_,_)] rfl ⟨z1 rfl,z4 rfl rfl,zz⟩ ?_
  refine ht_cond _ rfl (fun hb2 => ?_) (fun hb2 => ?_)
  ·have h := cond_t hb2 h
   refine ht_seq ?_
   obtain ⟨v3, hv3, h⟩ := zn h
   obtain ⟨v4, hv4, h⟩ := zn h
   obtain ⟨v5, hv5, h⟩ := zn h
   refine ht_anyR (by kernel_rfl) hn (El := (_ :: _ :: _ :: _ :: (13,vs s) :: (14,vi v1) :: (15,vs v3) :: (16,vs s) :: (17,vi v1) :: (18,vs sep) :: (19,vi (sep.size : Int)) :: (20,vi v4) :: (21,vs v5) :: (4,vs v3) :: (5,vs v5) :: (6,vb true) :: [])) (init := [0,1,2,3]) (fin := [13,14,15]) (sps := [zq [0] 4 13,zq [2] 5 14,zq [4,5] 6 15,zq [0] 7 16,zq [2] 8 17,zq [1] 9 18,zq [9] 10 19,zq [8,10] 11 20,zq [7,11] 12 21,zq [6] 13 4,zq [12] 14 5,zq [] 15 6]) (es' := [(4,vs v3),(5,vs v5),(6,vb true)]) (by kernel_rfl) rfl rfl ⟨z1 rfl,z1 rfl,zp rfl (op_substr _ _ _ 0 v1 _ underlying9 rfl rfl ⟨_,rfl⟩ hv3),z1 rfl,z1 rfl,z1 rfl,zp rfl (oN underlying9 rfl),zp rfl (oB rfl (ibind (f := int .i64) (Option.some.inj hv4))),zp rfl (op_substr _ _ _ v4 (s.size : Int) _ underlying9 rfl ⟨_,rfl⟩ rfl hv5),z2 rfl,z2 rfl,z2 rfl,zz⟩ ?_
   refine pt_then (ht_ret ?_)
   refine pt_r_then ?_
   obtain rfl := zi h
   exact pt_ret hio rfl (.tmp _ _ (.tmp _ _ (.tmp _ _ .nil))) rfl rfl
  ·have h := cond_f hb2 h
   refine ht_skip ?_
   refine pt_then ?_
   refine zgg hn [_,_,_,_,(22,vs s),(4,vs s),(5,vs z0),(6,vb false)] [0,1,2,3] [5,6,7] [zq [0] 4 22,zq [4] 5 4,zq [] 6 5,zq [] 7 6] [(_,_),(_,_),(_,_)] rfl ⟨z1 rfl,z2 rfl,z2 rfl,z2 rfl,zz⟩ ?_
   refine ht_ret ?_
   obtain rfl := zi h
   exact pt_ret hio rfl (.tmp _ _ (.tmp _ _ (.tmp _ _ .nil))) rfl rfl
theorem ok_strings_Cut (s : ByteArray) (sep : ByteArray) (r : (ByteArray × ByteArray × Bool)) (h : Sh.strings_Cut s sep = some r) : FnOK Tryd.prog 68 [.v (.string s), .v (.string sep)] (.tup [.v (.string r.1), .v (.string r.2.1), .v (.bool r.2.2)]) := by
  unfold Sh.strings_Cut at h
  refine fn_ok func68 rfl (zl rfl) rfl rfl fun g0 hn hio => ?_
  refine zgg hn [_,_,(4,vs z0),(5,vs z0),(6,vb false)] [0,1] [0,1] [zq [] 2 4,zq [] 3 5,zq [] 4 6] [(_,_),(_,_)] rfl ⟨z2 rfl,z2 rfl,z2 rfl,zz⟩ ?_
  refine ht_seq ?_
  obtain ⟨v1, hv1, h⟩ := zn h
  refine zg hn [_,_,(7,vs s),(8,vs sep),(9,.tup [vs v1.1,vs v1.2.1,vb v1.2.2]),(10,vs v1.1),(11,vs v1.2.1),(12,vb v1.2.2),(4,vs v1.1),(5,vs v1.2.1),(6,vb v1.2.2)] [0,1] [8,9,10] [zq [0] 2 7,zq [1] 3 8,zq [2,3] 4 9,zq [4] 5 10,zq [4] 6 11,zq [4] 7 12,zq [5] 8 4,zq [6] 9 5,zq [7] 10 6] [(_,_),(_,_),(_,_)] rfl ⟨z1 rfl,z1 rfl,zp rfl (op_call _ _ 78 _ _ rfl call78 rfl (ok_internal_stringslite_Cut s sep _ hv1) rfl rfl),zp rfl (oE rfl),zp rfl (oE rfl),zp rfl (oE rfl),z2 rfl,z2 rfl,z2 rfl,zz⟩ ?_
  refine pt_then (ht_ret ?_)
  obtain rfl := zi h
  exact pt_ret hio rfl (.tmp _ _ (.tmp _ _ (.tmp _ _ .nil))) rfl rfl
theorem ok_strings_splitSeq (s : ByteArray) (sep : ByteArray) (sepSave : Int) (r : (ByteArray × ByteArray × Int)) (h : Sh.strings_splitSeq s sep sepSave = some r) : FnOK Tryd.prog 104 [.v (.string s), .v (.string sep), .v (.int .i64 sepSave)] (.cloB 111 [.box 9 [.v (.string r.1)], .box 9 [.v (.string r.2.1)], .box 3 [.v (.int .i64 r.2.2)]]) := by
  unfold Sh.strings_splitSeq at h
  refine fn_ok func104 rfl (zl rfl) rfl rfl fun g0 hn hio => ?_
  refine zgg hn [_,_,_,(3,.box 9 [vs s]),(4,.box 9 [vs sep]),(5,.box 3 [vi sepSave]),(6,.v (.nilFunc))] [0,1,2] [3,4,5] [zq [0] 3 3,zq [1] 4 4,zq [2] 5 5,zq [] 6 6] [(_,_),(_,_),(_,_)] rfl ⟨zp rfl (op_box _ _ _ _ rfl rfl rfl),zp rfl (op_box _ _ _ _ rfl rfl rfl),zp rfl (op_box _ _ _ _ rfl rfl rfl),z2 rfl,zz⟩ ?_
  refine zgg hn [_,_,_,(7,.cloB 111 [.box 9 [vs sep],.box 9 [vs s],.box 3 [vi sepSave]]),(6,.cloB 111 [.box 9 [vs sep],.box 9 [vs s],.box 3 [vi sepSave]])] [0,1,2] [4] [⟨[],[1,0,2],[3],[(.slot 7)]⟩,⟨[],[3],[4],[(.slot 6)]⟩] [(_,_)] rfl ⟨zp rfl (op_mkclo _ _ [4, 3, 5] [.box 9 [.v (.string sep)], .box 9 [.v (.string s)], .box 3 [.v (.int .i64 sepSave)]] rfl rfl rfl),zp rfl (op_assign_take _ _ _ _ rfl),zz⟩ ?_
  refine ht_ret ?_
  obtain rfl := zi h
  exact pt_ret hio rfl (.tmp _ _ .nil) rfl rfl
theorem ok_strings_SplitSeq (s : ByteArray) (sep : ByteArray) (r : (ByteArray × ByteArray × Int)) (h : Sh.strings_SplitSeq s sep = some r) : FnOK Tryd.prog 89 [.v (.string s), .v (.string sep)] (.cloB 111 [.box 9 [.v (.string r.1)], .box 9 [.v (.string r.2.1)], .box 3 [.v (.int .i64 r.2.2)]]) := by
  unfold Sh.strings_SplitSeq at h
  refine fn_ok func89 rfl (zl rfl) rfl rfl fun g0 hn hio => ?_
  refine zgg hn [_,_,(4,.v (.nilFunc))] [0,1] [0,1] [zq [] 2 4] [(_,_),(_,_)] rfl ⟨z2 rfl,zz⟩ ?_
  refine ht_seq ?_
  obtain ⟨v1, hv1, h⟩ := zn h
  refine zg hn [_,_,(5,vs s),(6,vs sep),(7,.cloB 111 [.box 9 [vs v1.1],.box 9 [vs v1.2.1],.box 3 [vi v1.2.2]]),(4,.cloB 111 [.box 9 [vs v1.1],.box 9 [vs v1.2.1],.box 3 [vi v1.2.2]])] [0,1] [5] [zq [0] 2 5,zq [1] 3 6,zq [2,3] 4 7,⟨[],[4],[5],[(.slot 4)]⟩] [(_,_)] rfl ⟨z1 rfl,z1 rfl,zp rfl (op_callS _ _ 104 _ _ rfl call104 rfl rfl (ok_strings_splitSeq s sep 0 _ hv1) rfl),zp rfl (op_assign_take _ _ _ _ rfl),zz⟩ ?_
  refine pt_then (ht_ret ?_)
  obtain rfl := zi h
  exact pt_ret hio rfl (.tmp _ _ .nil) rfl rfl
theorem ok_unicode_utf8_decodeRuneInStringSlow (mx : Int) (s : ByteArray) (r : (Int × Int)) (h : Sh.unicode_utf8_decodeRuneInStringSlow s = some r) : FnG Tryd.prog (GL mx) 114 [.v (.string s)] (.tup [.v (.int .i32 r.1), .v (.int .i64 r.2)]) := by
  unfold Sh.unicode_utf8_decodeRuneInStringSlow at h
  refine fn_okG func114 rfl (zl rfl) rfl rfl fun g0 hn hio => ?_
  refine zgg hn [_,_,(2,.v (.int .i32 0)),(3,vi 0)] [0,1] [0,1] [zq [] 2 2,zq [] 3 3] [(_,_),(_,_)] rfl ⟨z2 rfl,z2 rfl,zz⟩ ?_
  refine zgg hn [_,_,(13,vs s),(14,vi (s.size : Int)),(4,vi (s.size : Int))] [0,1] [0,1,4] [zq [0] 2 13,zq [2] 3 14,zq [3] 4 4] [(_,_),(_,_),(_,_)] rfl ⟨z1 rfl,zp rfl (oN underlying9 rfl),z2 rfl,zz⟩ ?_
  refine ht_seq ?_
  refine zgg hn [_,_,_,(15,vi (s.size : Int)),(16,vb (decide ((s.size : Int) < 1)))] [0,1,2] [0,1,2,4] [zq [2] 3 15,zq [3] 4 16] [(_,_),(_,_),(_,_),(_,_)] rfl ⟨z1 rfl,z4 rfl rfl,zz⟩ ?_
  refine ht_cond _ rfl (fun hb1 => ?_) (fun hb1 => ?_)
  ·have h := cond_t hb1 h
   refine zgg hn [_,_,_,_,(2,.v (.int .i32 65533)),(3,vi 0)] [0,1,2,3] [1,4,5] [zq [] 4 2,zq [] 5 3] [(_,_),(_,_),(_,_)] rfl ⟨z2 rfl,z2 rfl,zz⟩ ?_
   refine ht_ret ?_
   refine pt_pick [1,2] (by kernel_rfl) (es' := [(_,_),(_,_)]) rfl ?_
   refine pt_r_then ?_
   obtain rfl := zi h
   exact pt_ret hio rfl (.tmp _ _ (.tmp _ _ .nil)) rfl rfl
  ·have h := cond_f hb1 h
   refine ht_skip ?_
   refine pt_then (ht_seq ?_)
   obtain ⟨v2, hv2, h⟩ := zn h
   refine zg hn [_,_,_,_,(17,vs s),(18,.v (.int .u8 v2)),(5,.v (.int .u8 v2))] [0,1,2,3] [0,1,2,6] [zq [0] 4 17,zq [4] 5 18,zq [5] 6 5] [(_,_),(_,_),(_,_),(_,_)] rfl ⟨z1 rfl,zp rfl (op_chr _ _ _ 0 _ underlying9 rfl rfl hv2),z2 rfl,zz⟩ ?_
   refine pt_then (ht_seq ?_)
   obtain ⟨v3, hv3, h⟩ := zn h
   obtain ⟨v4, hv4, h⟩ := zn h
   refine zg hn [_,_,_,_,(19,.v (.int .u8 v2)),(20,.v (.pointer (some ⟨1,(0 + v3 * 1),none⟩))),(21,.v (.int .u8 v4)),(6,.v (.int .u8 v4))] [0,1,2,3] [0,1,2,3,7] [zq [3] 4 19,zq [4] 5 20,zq [5,1] 6 21,zq [6] 7 6] [(_,_),(_,_),(_,_),(_,_),(_,_)] rfl ⟨z1 rfl,zp rfl (op_ix_globz _ _ _ _ 256 1 0 _ 1 _ underlying153 sz5 rfl rfl (ix_ok hv3).1 (ix_ok hv3).2),zp rfl (op_load_glob _ _ 117 1 _ _ _ underlying5 rfl rfl rfl (gl_mem1 mx) (map_get1 hv4)),z2 rfl,zz⟩ ?_
   refine pt_then (ht_seq ?_)
   refine zgg hn [_,_,_,_,_,(22,.v (.int .u8 v4)),(23,vb (decide (240 ≤ v4)))] [0,1,2,3,4] [0,1,2,3,4,6] [zq [4] 5 22,zq [5] 6 23] [(_,_),(_,_),(_,_),(_,_),(_,_),(_,_)] rfl ⟨z1 rfl,z4 rfl rfl,zz⟩ ?_
   refine ht_cond _ rfl (fun hb5 => ?_) (fun hb5 => ?_)
   ·have h := cond_t hb5 h
    refine ht_seq ?_
    obtain ⟨v6, hv6, h⟩ := zn h
    obtain ⟨v7, hv7, h⟩ := zn h
    obtain ⟨v8, hv8, h⟩ := zn h
    refine zg hn [_,_,_,_,_,_,(24,.v (.int .u8 v4)),(25,.v (.int .i32 v6)),(26,.v (.int .i32 v7)),(27,.v (.int .i32 v8)),(7,.v (.int .i32 v8))] [0,1,2,3,4,5] [0,1,10] [zq [4] 6 24,zq [6] 7 25,zq [7] 8 26,zq [8] 9 27,zq [9] 10 7] [(_,_),(_,_),(_,_)] rfl ⟨z1 rfl,zp rfl ((Option.some.inj hv6) ▸ op_conv _ _ _ underlying5 underlying21 rfl),zp rfl (oB rfl (shl_ok hv7)),zp rfl (oB rfl (shr_ok hv8)),z2 rfl,zz⟩ ?_
    refine pt_then (ht_seq ?_)
    obtain ⟨v9, hv9, h⟩ := zn h
    obtain ⟨v10, hv10, h⟩ := zn h
    obtain ⟨v11, hv11, h⟩ := zn h
    obtain ⟨v12, hv12, h⟩ := zn h
    obtain ⟨v13, hv13, h⟩ := zn h
    refine zg hn [_,_,_,(28,vs s),(29,.v (.int .u8 v9)),(30,.v (.int .i32 v10)),(31,.v (.int .i32 v8)),(32,.v (.int .i32 v11)),(33,.v (.int .i32 v8)),(34,.v (.int .i32 v12)),(35,.v (.int .i32 v13)),(2,.v (.int .i32 v13)),(3,vi 1)] [0,1,2] [1,11,12] [zq [0] 3 28,zq [3] 4 29,zq [4] 5 30,zq [2] 6 31,zq [5,6] 7 32,zq [2] 8 33,zq [8] 9 34,zq [7,9] 10 35,zq [10] 11 2,zq [] 12 3] [(_,_),(_,_),(_,_)] rfl ⟨z1 rfl,zp rfl (op_chr _ _ _ 0 _ underlying9 rfl rfl hv9),zp rfl ((Option.some.inj hv10) ▸ op_conv _ _ _ underlying5 underlying21 rfl),z1 rfl,zp rfl (oB rfl (ibind (f := int .i32) (Option.some.inj hv11))),z1 rfl,zp rfl (oB rfl (ibind (f := int .i32) (Option.some.inj hv12))),zp rfl (oB rfl (ibind (f := int .i32) (Option.some.inj hv13))),z2 rfl,z2 rfl,zz⟩ ?_
    refine pt_then (ht_ret ?_)
    refine pt_pick [1,2] (by kernel_rfl) (es' := [(_,_),(_,_)]) rfl ?_
    refine pt_r_then ?_
    obtain rfl := zi h
    exact pt_ret hio rfl (.tmp _ _ (.tmp _ _ .nil)) rfl rfl
   ·have h := cond_f hb5 h
    cases h
theorem ok_unicode_utf8_DecodeRuneInString (mx : Int) (s : ByteArray) (r : (Int × Int)) (h : Sh.unicode_utf8_DecodeRuneInString s = some r) : FnG Tryd.prog (GL mx) 112 [.v (.string s)] (.tup [.v (.int .i32 r.1), .v (.int .i64 r.2)]) := by
  unfold Sh.unicode_utf8_DecodeRuneInString at h
  refine fn_okG func112 rfl (zl rfl) rfl rfl fun g0 hn hio => ?_
  refine zgg hn [_,_,(2,.v (.int .i32 0)),(3,vi 0)] [0,1] [0,1] [zq [] 2 2,zq [] 3 3] [(_,_),(_,_)] rfl ⟨z2 rfl,z2 rfl,zz⟩ ?_
  refine ht_seq ?_
  refine ht_seq ?_
  refine ht_joinS h (fun (s2 : Bool) => [(0,vs s),(19,.glob (GL mx)),(10,vb s2)]) ?_ ?_
  ·rintro s2 h
   refine pt_then ?_
   refine ht_cond _ rfl (fun hb6 => ?_) (fun hb6 => ?_)
   ·have h := cond_t hb6 h
    refine ht_seq ?_
    obtain ⟨v7, hv7, h⟩ := zn h
    obtain ⟨v8, hv8, h⟩ := zn h
    refine zg hn [_,_,_,(11,vs s),(12,.v (.int .u8 v7)),(13,.v (.int .i32 v8)),(2,.v (.int .i32 v8)),(3,vi 1)] [0,1,2] [1,6,7] [zq [0] 3 11,zq [3] 4 12,zq [4] 5 13,zq [5] 6 2,zq [] 7 3] [(_,_),(_,_),(_,_)] rfl ⟨z1 rfl,zp rfl (op_chr _ _ _ 0 _ underlying9 rfl rfl hv7),zp rfl ((Option.some.inj hv8) ▸ op_conv _ _ _ underlying5 underlying21 rfl),z2 rfl,z2 rfl,zz⟩ ?_
    refine pt_then (ht_ret ?_)
    refine pt_pick [1,2] (by kernel_rfl) (es' := [(_,_),(_,_)]) rfl ?_
    refine pt_r_then ?_
    obtain rfl := zi h
    exact pt_ret hio rfl (.tmp _ _ (.tmp _ _ .nil)) rfl rfl
   ·have h := cond_f hb6 h
    obtain ⟨v9, hv9, h⟩ := zn h
    refine zg hn [_,_,_,(15,vs s),(16,.tup [.v (.int .i32 v9.1),vi v9.2]),(14,.tup [.v (.int .i32 v9.1),vi v9.2]),(17,.v (.int .i32 v9.1)),(18,vi v9.2),(2,.v (.int .i32 v9.1)),(3,vi v9.2)] [0,1,2] [1,8,9] [zq [0] 3 15,zq [3,1] 4 16,⟨[],[4],[5],[(.slot 14)]⟩,zq [5] 6 17,zq [5] 7 18,zq [6] 8 2,zq [7] 9 3] [(_,_),(_,_),(_,_)] rfl ⟨z1 rfl,zp rfl (op_callG _ _ 19 114 _ _ rfl call114 rfl rfl (fun _ h => h) (ok_unicode_utf8_decodeRuneInStringSlow mx s _ hv9) rfl rfl),zp rfl (op_move_take _ _ _ _ rfl),zp rfl (oE rfl),zp rfl (oE rfl),z2 rfl,z2 rfl,zz⟩ ?_
    refine pt_then (ht_ret ?_)
    refine pt_pick [1,2] (by kernel_rfl) (es' := [(_,_),(_,_)]) rfl ?_
    obtain rfl := zi h
    exact pt_ret hio rfl (.tmp _ _ (.tmp _ _ .nil)) rfl rfl
  ·intro u3 h hl4 hr5
   refine cond_some h (fun hg1_2 h => ?_) (fun hg1_2 h => ?_)
   ·obtain ⟨v1, hv1, h⟩ := zn h
    refine zg hn [_,_,(4,vs s),(5,vb (!(s.toList == z0.toList))),(6,vb true),(7,vs s),(8,.v (.int .u8 v1)),(9,vb (decide (v1 < 128))),(10,vb (decide (v1 < 128)))] [0,1] [0,1,8] [zq [0] 2 4,zq [2] 3 5,zq [3] 4 6,zq [4,0] 5 7,zq [4,5] 6 8,zq [4,6] 7 9,zq [4,7] 8 10] [(_,_),(_,_),(_,_)] rfl ⟨z1 rfl,z4 rfl rfl,z8 hg1_2 rfl,zr' rfl (oM rfl),zr' rfl (op_chr _ _ _ 0 _ underlying9 rfl rfl hv1),zr' rfl (oB rfl rfl),z3 true rfl,zz⟩ ?_
    exact hl4 _ (zi h).symm
   ·refine zg hn [_,_,(4,vs s),(5,vb (!(s.toList == z0.toList))),(6,vb false),(7,.v undef),(8,.v undef),(9,.v undef),(10,vb false)] [0,1] [0,1,8] [zq [0] 2 4,zq [2] 3 5,zq [3] 4 6,zq [4] 5 7,zq [4] 6 8,zq [4] 7 9,zq [4] 8 10] [(_,_),(_,_),(_,_)] rfl ⟨z1 rfl,z4 rfl rfl,z8 hg1_2 rfl,zt rfl,zt rfl,zt rfl,z3 false rfl,zz⟩ ?_
    exact hl4 _ (zi h).symm
theorem ok_strings_Index (s sub : ByteArray) (r : Int) (h : Sh.strings_Index s sub = some r) : FnOK Tryd.prog 113 [.v (.string s), .v (.string sub)] (.v (.int .i64 r)) := lib_strings_Index Tryd.strings_Index_one s sub r h
end Go.Proofs.YtofbofdggabfiaaDoor
