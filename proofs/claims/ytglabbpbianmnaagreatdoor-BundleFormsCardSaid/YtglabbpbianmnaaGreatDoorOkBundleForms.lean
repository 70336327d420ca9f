/-
  The model's runs are what is told in Lean.
-/
import Derived.Test.YtglabbpbianmnaaGreatDoorProg
import Derived.KernelRfl
import Derived.Test.YtglabbpbianmnaaGreatDoorShelf
import Derived.Test.YtglabbpbianmnaaGreatDoorIdx
import Derived.Test.YtglabbpbianmnaaGreatDoorC1
import Derived.Test.YtglabbpbianmnaaGreatDoorOkc6
set_option linter.unusedVariables false
set_option linter.unusedSimpArgs false
set_option maxHeartbeats 1000000
namespace Go.Proofs.YtglabbpbianmnaaGreatDoor
open Go.Abs Go.Abs.Sh Tryz
open List (map flatten)
open Value (int)

theorem ok_wherrylaw17_BundleForms (mx:Int) (b:T_Bundle) (how:Int) (r:Bool) (h:Sh.wherrylaw17_BundleForms b how=some r):FnG Tryz.prog (GL mx) 7 [.agg [.v (.int .i64 b.Origin), .v (.int .i64 b.Number), .fr .shr true 8 (flatten (map T_Mail.ienc b.Mails))], .v (.int .i64 how)] (.v (.bool r)):=by
  unfold Sh.wherrylaw17_BundleForms at h
  refine yG 257 func7 fun g0 hn hio => ?_
  refine yyy hn 2 [1,257,2] ?_
  refine ht_seq ?_
  refine ht_seq ?_
  obtain ⟨v1, hv1, h⟩:=zn h
  refine yx hn 2 ?_
  refine ys 0 ⟨lk call10 (ok_wherrylaw17_Heavy _ _ hv1)⟩ ?_
  refine yee [1,257,2,19] ?_
  refine ht_cond _ rfl (fun hb154 => ?_) (fun hb154 => ?_)
  ·have h:=cond_t hb154 h
   refine yyy hn 1 [257,4] ?_
   refine ht_ret ?_
   refine pt_pick [1] (by kernel_rfl) (es':=[(_,_)]) rfl ?_
   refine pt_r_then ?_
   obtain rfl:=zi h
   exact pt_ret hio rfl (.tmp _ _ .nil) rfl rfl
  ·have h:=cond_f hb154 h
   refine ht_skip ?_
   refine pt_then (ht_seq ?_)
   obtain ⟨v3, hv3, h⟩:=zn h
   refine yx hn 1 ?_
   refine ys 0 ⟨lk call14 (ok_wherryref11_BundleBytes _ _ hv3)⟩ ?_
   refine ym 0 ?_
   refine yx_ 1 ?_
   refine ya 1 ?_
   refine yee [1,257,2,5,6] ?_
   refine ht_seq ?_
   refine yyy hn 2 [1,257,2,5,26] ?_
   refine ht_cond _ rfl (fun hb155 => ?_) (fun hb155 => ?_)
   ·have h:=cond_t hb155 h
    refine yyy hn 1 [257,4] ?_
    refine ht_ret ?_
    refine pt_pick [1] (by kernel_rfl) (es':=[(_,_)]) rfl ?_
    refine pt_r_then ?_
    obtain rfl:=zi h
    exact pt_ret hio rfl (.tmp _ _ .nil) rfl rfl
   ·have h:=cond_f hb155 h
    refine ht_skip ?_
    refine pt_then ?_
    refine yyy hn 1 [1,257,2,5,7] ?_
    refine ht_seq ?_
    refine ht_loopS h (fun (s159:Int)=>[(1,vi how),(257,.glob (GL mx)),(2,.box 24 [vi b.Origin,vi b.Number,.fr .shr true 8 (flatten (map T_Mail.ienc b.Mails))]),(5,.mkr 5 (map (int .u8) v3.1)),(7,vi s159)]) (fun (s161:Int)=>[(1,vi how),(257,.glob (GL mx)),(2,.box 24 [vi b.Origin,vi b.Number,.fr .shr true 8 (flatten (map T_Mail.ienc b.Mails))]),(5,.mkr 5 (map (int .u8) v3.1)),(7,vi s161)]) ?_ ?_
    ·rintro s161 h
     refine pt_then (ht_seq ?_)
     refine ht_frz 3 hio (es':=[(1, .v (.int .i64 how)), (257, .glob (GL mx)), (2, .box 24 [.v (.int .i64 b.Origin),.v (.int .i64 b.Number),.fr .shr true 8 (flatten (map T_Mail.ienc b.Mails))]), (5, .fl .ro 1 (map (int .u8) v3.1)), (7, .v (.int .i64 s161))]) rfl ?_
     obtain ⟨v21, hv21, h⟩:=zn h
     obtain ⟨v22, hv22, h⟩:=zn h
     refine yx hn 2 ?_
     refine ys 0 ⟨lb hv21⟩ ?_
     refine yS (.fl .ro 1 (map (int .u8) v22)) 1 ⟨op_sl _ _ _ v21 (v3.1.length:Int) _ underlying25 sz5 rfl rfl ⟨_,rfl⟩ rfl hv22⟩ ?_
     refine yee [1,257,2,5,8] ?_
     refine yyy hn 1 [1,257,2,5,8,9] ?_
     refine yyy hn 4 [1,257,2,5,8,9,10] ?_
     refine ht_seq ?_
     obtain ⟨v23, hv23, h⟩:=zn h
     obtain ⟨v24, hv24, h⟩:=zn h
     refine yx hn 2 ?_
     refine ys 0 ⟨lk call28 (ok_wherryref08_Long _ _ hv23)⟩ ?_
     refine ys 1 ⟨lk call27 (ok_wherryref11_Digits _ _ hv24)⟩ ?_
     refine yee [1,257,2,5,8,9,10,11] ?_
     refine ht_seq ?_
     obtain ⟨v25, hv25, h⟩:=zn h
     obtain ⟨v26, hv26, h⟩:=zn h
     obtain ⟨v27, hv27, h⟩:=zn h
     obtain ⟨v28, hv28, h⟩:=zn h
     obtain ⟨v29, hv29, h⟩:=zn h
     obtain ⟨v30, hv30, h⟩:=zn h
     obtain ⟨v31, hv31, h⟩:=zn h
     obtain ⟨v32, hv32, h⟩:=zn h
     obtain ⟨v33, hv33, h⟩:=zn h
     obtain ⟨v34, hv34, h⟩:=zn h
     obtain ⟨v35, hv35, h⟩:=zn h
     obtain ⟨v36, hv36, h⟩:=zn h
     obtain ⟨v37, hv37, h⟩:=zn h
     obtain ⟨v38, hv38, h⟩:=zn h
     obtain ⟨v39, hv39, h⟩:=zn h
     obtain ⟨v40, hv40, h⟩:=zn h
     obtain ⟨v41, hv41, h⟩:=zn h
     obtain ⟨v42, hv42, h⟩:=zn h
     obtain ⟨v43, hv43, h⟩:=zn h
     obtain ⟨v44, hv44, h⟩:=zn h
     obtain ⟨v45, hv45, h⟩:=zn h
     obtain ⟨v46, hv46, h⟩:=zn h
     obtain ⟨v47, hv47, h⟩:=zn h
     obtain ⟨v48, hv48, h⟩:=zn h
     obtain ⟨v49, hv49, h⟩:=zn h
     obtain ⟨v50, hv50, h⟩:=zn h
     obtain ⟨v51, hv51, h⟩:=zn h
     obtain ⟨v52, hv52, h⟩:=zn h
     obtain ⟨v53, hv53, h⟩:=zn h
     obtain ⟨v54, hv54, h⟩:=zn h
     obtain ⟨v55, hv55, h⟩:=zn h
     obtain ⟨v56, hv56, h⟩:=zn h
     obtain ⟨v57, hv57, h⟩:=zn h
     obtain ⟨v58, hv58, h⟩:=zn h
     obtain ⟨v59, hv59, h⟩:=zn h
     obtain ⟨v60, hv60, h⟩:=zn h
     obtain ⟨v61, hv61, h⟩:=zn h
     obtain ⟨v62, hv62, h⟩:=zn h
     obtain ⟨v63, hv63, h⟩:=zn h
     obtain ⟨v64, hv64, h⟩:=zn h
     obtain ⟨v65, hv65, h⟩:=zn h
     obtain ⟨v66, hv66, h⟩:=zn h
     obtain ⟨v67, hv67, h⟩:=zn h
     obtain ⟨v68, hv68, h⟩:=zn h
     obtain ⟨v69, hv69, h⟩:=zn h
     obtain ⟨v70, hv70, h⟩:=zn h
     obtain ⟨v71, hv71, h⟩:=zn h
     obtain ⟨v72, hv72, h⟩:=zn h
     obtain ⟨v73, hv73, h⟩:=zn h
     obtain ⟨v74, hv74, h⟩:=zn h
     obtain ⟨v75, hv75, h⟩:=zn h
     obtain ⟨v76, hv76, h⟩:=zn h
     obtain ⟨v77, hv77, h⟩:=zn h
     obtain ⟨v78, hv78, h⟩:=zn h
     obtain ⟨v79, hv79, h⟩:=zn h
     obtain ⟨v80, hv80, h⟩:=zn h
     obtain ⟨v81, hv81, h⟩:=zn h
     obtain ⟨v82, hv82, h⟩:=zn h
     obtain ⟨v83, hv83, h⟩:=zn h
     obtain ⟨v84, hv84, h⟩:=zn h
     obtain ⟨v85, hv85, h⟩:=zn h
     obtain ⟨v86, hv86, h⟩:=zn h
     obtain ⟨v87, hv87, h⟩:=zn h
     obtain ⟨v88, hv88, h⟩:=zn h
     obtain ⟨v89, hv89, h⟩:=zn h
     obtain ⟨v90, hv90, h⟩:=zn h
     obtain ⟨v91, hv91, h⟩:=zn h
     obtain ⟨v92, hv92, h⟩:=zn h
     obtain ⟨v93, hv93, h⟩:=zn h
     obtain ⟨v94, hv94, h⟩:=zn h
     obtain ⟨v95, hv95, h⟩:=zn h
     obtain ⟨v96, hv96, h⟩:=zn h
     obtain ⟨v97, hv97, h⟩:=zn h
     obtain ⟨v98, hv98, h⟩:=zn h
     obtain ⟨v99, hv99, h⟩:=zn h
     obtain ⟨v100, hv100, h⟩:=zn h
     obtain ⟨v101, hv101, h⟩:=zn h
     obtain ⟨v102, hv102, h⟩:=zn h
     obtain ⟨v103, hv103, h⟩:=zn h
     obtain ⟨v104, hv104, h⟩:=zn h
     obtain ⟨v105, hv105, h⟩:=zn h
     obtain ⟨v106, hv106, h⟩:=zn h
     obtain ⟨v107, hv107, h⟩:=zn h
     obtain ⟨v108, hv108, h⟩:=zn h
     obtain ⟨v109, hv109, h⟩:=zn h
     obtain ⟨v110, hv110, h⟩:=zn h
     obtain ⟨v111, hv111, h⟩:=zn h
     obtain ⟨v112, hv112, h⟩:=zn h
     obtain ⟨v113, hv113, h⟩:=zn h
     obtain ⟨v114, hv114, h⟩:=zn h
     obtain ⟨v115, hv115, h⟩:=zn h
     refine wb [[9],[2],[46,2]] ?_
     refine wN [47,45] ?_
     refine wo [] ⟨lk call27 (ok_wherryref11_Digits _ _ hv25)⟩ ?_
     refine wN [48] ?_
     refine wo [] ⟨lB (cat_ok hv26)⟩ ?_
     refine wN [49] ?_
     refine wo [[9],[2],[52,2]] ⟨lB (cat_ok hv27)⟩ ?_
     refine wN [53,51] ?_
     refine wo [] ⟨lk call27 (ok_wherryref11_Digits _ _ hv28)⟩ ?_
     refine wN [50,54] ?_
     refine wo [] ⟨lB (cat_ok hv29)⟩ ?_
     refine wN [55] ?_
     refine wo [[9],[10]] ⟨lB (cat_ok hv30)⟩ ?_
     refine wN [58,57] ?_
     refine wo [] ⟨lk call27 (ok_wherryref11_Digits _ _ hv31)⟩ ?_
     refine wN [56,59] ?_
     refine wo [] ⟨lB (cat_ok hv32)⟩ ?_
     refine wN [60] ?_
     refine wo [[9],[8],[63]] ⟨lB (cat_ok hv33)⟩ ?_
     refine wN [64,62] ?_
     refine wo [] ⟨lk call27 (ok_wherryref11_Digits _ _ hv34)⟩ ?_
     refine wN [61,65] ?_
     refine wo [] ⟨lB (cat_ok hv35)⟩ ?_
     refine wN [66] ?_
     refine wo [[11]] ⟨lB (cat_ok hv36)⟩ ?_
     refine wN [67,68] ?_
     refine wo [[9],[2],[71,2]] ⟨lB (cat_ok hv37)⟩ ?_
     refine wN [72,70] ?_
     refine wo [] ⟨lk call27 (ok_wherryref11_Digits _ _ hv38)⟩ ?_
     refine wN [73] ?_
     refine wo [] ⟨lB (cat_ok hv39)⟩ ?_
     refine wN [74] ?_
     refine wo [[9],[2],[77,2]] ⟨lB (cat_ok hv40)⟩ ?_
     refine wN [78,76] ?_
     refine wo [] ⟨lk call27 (ok_wherryref11_Digits _ _ hv41)⟩ ?_
     refine wN [75,79] ?_
     refine wo [] ⟨lB (cat_ok hv42)⟩ ?_
     refine wN [80] ?_
     refine wo [[9],[10]] ⟨lB (cat_ok hv43)⟩ ?_
     refine wN [83,82] ?_
     refine wo [] ⟨lk call27 (ok_wherryref11_Digits _ _ hv44)⟩ ?_
     refine wN [81,84] ?_
     refine wo [] ⟨lB (cat_ok hv45)⟩ ?_
     refine wN [85] ?_
     refine wo [[9],[8],[88]] ⟨lB (cat_ok hv46)⟩ ?_
     refine wN [89,87] ?_
     refine wo [] ⟨lk call27 (ok_wherryref11_Digits _ _ hv47)⟩ ?_
     refine wN [86,90] ?_
     refine wo [] ⟨lB (cat_ok hv48)⟩ ?_
     refine wN [91] ?_
     refine wo [[11]] ⟨lB (cat_ok hv49)⟩ ?_
     refine wN [92,93] ?_
     refine wo [[9],[2],[96,2]] ⟨lB (cat_ok hv50)⟩ ?_
     refine wN [97] ?_
     refine wo [] ⟨lb hv51⟩ ?_
     refine wN [98,95] ?_
     refine wo [] ⟨lk call27 (ok_wherryref11_Digits _ _ hv52)⟩ ?_
     refine wN [99] ?_
     refine wo [] ⟨lB (cat_ok hv53)⟩ ?_
     refine wN [100] ?_
     refine wo [[9],[2],[103,2]] ⟨lB (cat_ok hv54)⟩ ?_
     refine wN [104,102] ?_
     refine wo [] ⟨lk call27 (ok_wherryref11_Digits _ _ hv55)⟩ ?_
     refine wN [101,105] ?_
     refine wo [] ⟨lB (cat_ok hv56)⟩ ?_
     refine wN [106] ?_
     refine wo [[9],[10]] ⟨lB (cat_ok hv57)⟩ ?_
     refine wN [109,108] ?_
     refine wo [] ⟨lk call27 (ok_wherryref11_Digits _ _ hv58)⟩ ?_
     refine wN [107,110] ?_
     refine wo [] ⟨lB (cat_ok hv59)⟩ ?_
     refine wN [111] ?_
     refine wo [[9],[8],[114]] ⟨lB (cat_ok hv60)⟩ ?_
     refine wN [115,113] ?_
     refine wo [] ⟨lk call27 (ok_wherryref11_Digits _ _ hv61)⟩ ?_
     refine wN [112,116] ?_
     refine wo [] ⟨lB (cat_ok hv62)⟩ ?_
     refine wN [117] ?_
     refine wo [[11]] ⟨lB (cat_ok hv63)⟩ ?_
     refine wN [118,119] ?_
     refine wo [[9],[2],[122,2]] ⟨lB (cat_ok hv64)⟩ ?_
     refine wN [123,121] ?_
     refine wo [] ⟨lk call27 (ok_wherryref11_Digits _ _ hv65)⟩ ?_
     refine wN [124] ?_
     refine wo [] ⟨lB (cat_ok hv66)⟩ ?_
     refine wN [125] ?_
     refine wo [[9],[2],[128,2]] ⟨lB (cat_ok hv67)⟩ ?_
     refine wN [129,127] ?_
     refine wo [] ⟨lk call27 (ok_wherryref11_Digits _ _ hv68)⟩ ?_
     refine wN [126,130] ?_
     refine wo [] ⟨lB (cat_ok hv69)⟩ ?_
     refine wN [131] ?_
     refine wo [[9],[10]] ⟨lB (cat_ok hv70)⟩ ?_
     refine wN [134] ?_
     refine wo [] ⟨lb hv71⟩ ?_
     refine wN [135,133] ?_
     refine wo [] ⟨lk call27 (ok_wherryref11_Digits _ _ hv72)⟩ ?_
     refine wN [132,136] ?_
     refine wo [] ⟨lB (cat_ok hv73)⟩ ?_
     refine wN [137] ?_
     refine wo [[9],[8],[140]] ⟨lB (cat_ok hv74)⟩ ?_
     refine wN [141,139] ?_
     refine wo [] ⟨lk call27 (ok_wherryref11_Digits _ _ hv75)⟩ ?_
     refine wN [138,142] ?_
     refine wo [] ⟨lB (cat_ok hv76)⟩ ?_
     refine wN [143] ?_
     refine wo [[11]] ⟨lB (cat_ok hv77)⟩ ?_
     refine wN [144,145] ?_
     refine wo [[9],[2],[148,2]] ⟨lB (cat_ok hv78)⟩ ?_
     refine wN [149,147] ?_
     refine wo [] ⟨lk call27 (ok_wherryref11_Digits _ _ hv79)⟩ ?_
     refine wN [150] ?_
     refine wo [] ⟨lB (cat_ok hv80)⟩ ?_
     refine wN [151] ?_
     refine wo [[9],[2],[154,2]] ⟨lB (cat_ok hv81)⟩ ?_
     refine wN [155,153] ?_
     refine wo [] ⟨lk call27 (ok_wherryref11_Digits _ _ hv82)⟩ ?_
     refine wN [152,156] ?_
     refine wo [] ⟨lB (cat_ok hv83)⟩ ?_
     refine wN [157] ?_
     refine wo [[9],[10]] ⟨lB (cat_ok hv84)⟩ ?_
     refine wN [160,159] ?_
     refine wo [] ⟨lk call27 (ok_wherryref11_Digits _ _ hv85)⟩ ?_
     refine wN [158,161] ?_
     refine wo [] ⟨lB (cat_ok hv86)⟩ ?_
     refine wN [162] ?_
     refine wo [[9],[8],[165]] ⟨lB (cat_ok hv87)⟩ ?_
     refine wN [166] ?_
     refine wo [] ⟨lb hv88⟩ ?_
     refine wN [167,164] ?_
     refine wo [] ⟨lk call27 (ok_wherryref11_Digits _ _ hv89)⟩ ?_
     refine wN [163,168] ?_
     refine wo [] ⟨lB (cat_ok hv90)⟩ ?_
     refine wN [169] ?_
     refine wo [[11]] ⟨lB (cat_ok hv91)⟩ ?_
     refine wN [170,171] ?_
     refine wo [[9],[2],[174,2]] ⟨lB (cat_ok hv92)⟩ ?_
     refine wN [175,173] ?_
     refine wo [] ⟨lk call27 (ok_wherryref11_Digits _ _ hv93)⟩ ?_
     refine wN [176] ?_
     refine wo [] ⟨lB (cat_ok hv94)⟩ ?_
     refine wN [177] ?_
     refine wo [[9],[2],[180,2]] ⟨lB (cat_ok hv95)⟩ ?_
     refine wN [181,179] ?_
     refine wo [] ⟨lk call27 (ok_wherryref11_Digits _ _ hv96)⟩ ?_
     refine wN [178,182] ?_
     refine wo [] ⟨lB (cat_ok hv97)⟩ ?_
     refine wN [183] ?_
     refine wo [[9],[10]] ⟨lB (cat_ok hv98)⟩ ?_
     refine wN [186,185] ?_
     refine wo [] ⟨lk call27 (ok_wherryref11_Digits _ _ hv99)⟩ ?_
     refine wN [184,187] ?_
     refine wo [] ⟨lB (cat_ok hv100)⟩ ?_
     refine wN [188] ?_
     refine wo [[9],[8],[191]] ⟨lB (cat_ok hv101)⟩ ?_
     refine wN [192,190] ?_
     refine wo [] ⟨lk call27 (ok_wherryref11_Digits _ _ hv102)⟩ ?_
     refine wN [189,193] ?_
     refine wo [] ⟨lB (cat_ok hv103)⟩ ?_
     refine wN [194] ?_
     refine wo [[11]] ⟨lB (cat_ok hv104)⟩ ?_
     refine wN [195,196] ?_
     refine wo [[9],[2],[199,2]] ⟨lB (cat_ok hv105)⟩ ?_
     refine wN [200,198] ?_
     refine wo [] ⟨lk call27 (ok_wherryref11_Digits _ _ hv106)⟩ ?_
     refine wN [201] ?_
     refine wo [] ⟨lB (cat_ok hv107)⟩ ?_
     refine wN [202] ?_
     refine wo [[9],[10]] ⟨lB (cat_ok hv108)⟩ ?_
     refine wN [205,204] ?_
     refine wo [] ⟨lk call27 (ok_wherryref11_Digits _ _ hv109)⟩ ?_
     refine wN [203,206] ?_
     refine wo [] ⟨lB (cat_ok hv110)⟩ ?_
     refine wN [207] ?_
     refine wo [[9],[8],[210]] ⟨lB (cat_ok hv111)⟩ ?_
     refine wN [211,209] ?_
     refine wo [] ⟨lk call27 (ok_wherryref11_Digits _ _ hv112)⟩ ?_
     refine wN [208,212] ?_
     refine wo [] ⟨lB (cat_ok hv113)⟩ ?_
     refine wN [213] ?_
     refine wo [[11]] ⟨lB (cat_ok hv114)⟩ ?_
     refine wN [214,215] ?_
     refine wo [] ⟨lB (cat_ok hv115)⟩ ?_
     refine wN [69,94,120,146,172,197,216] ?_
     refine wS (.fl (.own 9) 1 (map Value.string [v37,v50,v64,v78,v92,v105,v115])) [] ⟨op_buildSlice _ _ 1 (.string ByteArray.empty) (map Value.string [v37,v50,v64,v78,v92,v105,v115]) [(0,.string v37),(1,.string v50),(2,.string v64),(3,.string v78),(4,.string v92),(5,.string v105),(6,.string v115)] underlying57 sz9 zr9 (fun _ V w o a hv hes=>by have e0:=rd_v hv hes (x := .tmp 69) rfl; have e1:=rd_v hv hes (x := .tmp 94) rfl; have e2:=rd_v hv hes (x := .tmp 120) rfl; have e3:=rd_v hv hes (x := .tmp 146) rfl; have e4:=rd_v hv hes (x := .tmp 172) rfl; have e5:=rd_v hv hes (x := .tmp 197) rfl; have e6:=rd_v hv hes (x := .tmp 216) rfl; simp only [List.map_toArray,List.map_cons,List.map_nil,e0,e1,e2,e3,e4,e5,e6]; try rfl) (litfill (by simp [Instr.fill,Value.cells]; rfl) (by simp [List.range,List.range.loop] <;> rfl)) (by simp [Value.oneCell']) rfl (by decide) (by decide) (by decide)⟩ ?_
     refine wK [217] [] ?_
     refine wt [(12,.fl (.own 9) 1 (map Value.string [v37,v50,v64,v78,v92,v105,v115]))] [] ⟨op_assign_take _ _ _ _ rfl⟩ ?_
     refine wee hn [1,257,2,5,8,12] ?_
     refine ht_seq ?_
     obtain ⟨v116, hv116, h⟩:=zn h
     obtain ⟨v117, hv117, h⟩:=zn h
     obtain ⟨v118, hv118, h⟩:=zn h
     obtain ⟨v119, hv119, h⟩:=zn h
     obtain ⟨v120, hv120, h⟩:=zn h
     obtain ⟨v121, hv121, h⟩:=zn h
     obtain ⟨v122, hv122, h⟩:=zn h
     obtain ⟨v138, hv138, h⟩:=zn h
     obtain ⟨v169, hv169, h⟩:=zn h
     refine yx hn 0 ?_
     refine ym 1 ?_
     refine ys 0 ⟨lv hv116⟩ ?_
     refine ys 0 ⟨lB (rem_ok hv117)⟩ ?_
     refine ys 0 ⟨lv hv118⟩ ?_
     refine ys 0 ⟨li hv119⟩ ?_
     refine ys 0 ⟨ll hv120⟩ ?_
     refine ys 0 ⟨lB (cat_ok hv121)⟩ ?_
     refine ys 1 ⟨lU hv122⟩ ?_
     refine yk [227] [228] ?_
     refine ytt (227,.any) (229,.fl .ro 1 (map (int .u8) v138)) 0 ⟨LOp.frzG 1 (op_app_mk _ _ _ _ _ el25 rfl rfl rfl rfl hv138 rfl) (zl rfl) rfl⟩ ?_
     refine yS (.tup [.agg [vi v169.1.Origin,vi v169.1.Number,.fr (.own 46) false 8 (flatten (map T_Mail.ienc v169.1.Mails))],vi v169.2]) 0 ⟨op_callRG _ _ 257 15 _ _ rfl call15 rfl rfl (fun _ h=>h) (ok_bundle_Read_ro mx v138 _ hv169) rfl rfl⟩ ?_
     refine ym 0 ?_
     refine yx_ 1 ?_
     refine yS (.box 24 [vi 0,vi 0,vz]) 0 ⟨oA (op_alloc _ _ zr24)⟩ ?_
     refine yk [231,13] [] ?_
     refine yt (13,.box 24 [vi v169.1.Origin,vi v169.1.Number,.fr (.own 46) false 8 (flatten (map T_Mail.ienc v169.1.Mails))]) 1 ⟨op_store_take _ _ _ _ _ _ _ _ sz24 rfl rfl rfl (zl rfl) rfl rfl⟩ ?_
     refine yee [257,2,5,13,14] ?_
     refine ht_seq ?_
     obtain ⟨v170, hv170, h⟩:=zn h
     refine yx hn 1 ?_
     refine yS (.tup [.agg [vi v170.1.Origin,vi v170.1.Number,.fr (.own 46) false 8 (flatten (map T_Mail.ienc v170.1.Mails))],vi v170.2]) 0 ⟨op_callRG _ _ 257 15 _ _ rfl call15 rfl rfl (fun _ h=>h) (ok_bundle_Read_ro mx v3.1 _ hv170) rfl rfl⟩ ?_
     refine ym 0 ?_
     refine yx_ 1 ?_
     refine yS (.box 24 [vi 0,vi 0,vz]) 0 ⟨oA (op_alloc _ _ zr24)⟩ ?_
     refine yk [236,15] [] ?_
     refine yt (15,.box 24 [vi v170.1.Origin,vi v170.1.Number,.fr (.own 46) false 8 (flatten (map T_Mail.ienc v170.1.Mails))]) 1 ⟨op_store_take _ _ _ _ _ _ _ _ sz24 rfl rfl rfl (zl rfl) rfl rfl⟩ ?_
     refine yee [257,2,13,14,15,16] ?_
     refine ht_seq ?_
     refine ht_joinS h (fun (s174:Bool)=>[(257,.glob (GL mx)),(4,vb s174)]) ?_ ?_
     ·rintro s174 h
      refine pt_then (ht_ret ?_)
      refine pt_pick [1] (by kernel_rfl) (es':=[(_,_)]) rfl ?_
      obtain rfl:=zi h
      exact pt_ret hio rfl (.tmp _ _ .nil) rfl rfl
     ·intro u175 h hl176 hr177
      refine cond_some h (fun hg16_2 h => ?_) (fun hg16_2 h => ?_)
      ·obtain ⟨v171, hv171, h⟩:=zn h
       refine cond_some h (fun hg16_7 h => ?_) (fun hg16_7 h => ?_)
       ·refine cond_some h (fun hg16_11 h => ?_) (fun hg16_11 h => ?_)
        ·obtain ⟨v172, hv172, h⟩:=zn h
         refine cond_some h (fun hg16_16 h => ?_) (fun hg16_16 h => ?_)
         ·obtain ⟨v173, hv173, h⟩:=zn h
          refine yx hn 3 ?_
          refine yd hg16_2 0 ?_
          refine yk [13] [] ?_
          refine yt (241,.agg [vi v169.1.Origin,vi v169.1.Number,.fr (.own 46) false 8 (flatten (map T_Mail.ienc v169.1.Mails))]) 0 ⟨op_loadA_take _ _ _ _ underlying24 rfl sz24 rfl rfl⟩ ?_
          refine yS (.agg [vi 0,vi 0,vz]) 0 ⟨op_build _ _ _ _ [1,1,1] _ _ underlying24 zr24 (fs24 _ underlying24) Src.nil rfl rfl rfl⟩ ?_
          refine yS (vb v171) 2 ⟨op_call _ _ 22 _ _ rfl call22 rfl ((ok_wherrykeep_Bundle (T_Bundle.mk v169.1.Origin v169.1.Number v169.1.Mails) (T_Bundle.mk 0 0 []) _ hv171).args (subs_cons (sub_refl _) (subs_cons (sub_agg (subs_cons (sub_refl _) (subs_cons (sub_refl _) (subs_cons (sub_nil_frs true 8) (subs_nil))))) (subs_nil)))) rfl rfl⟩ ?_
          refine yd hg16_7 4 ?_
          refine yd hg16_11 0 ?_
          refine yk [15] [] ?_
          refine yt (250,.agg [vi v170.1.Origin,vi v170.1.Number,.fr (.own 46) false 8 (flatten (map T_Mail.ienc v170.1.Mails))]) 1 ⟨op_loadA_take _ _ _ _ underlying24 rfl sz24 rfl rfl⟩ ?_
          refine ys 2 ⟨lk call22 (ok_wherrykeep_Bundle _ _ _ hv172)⟩ ?_
          refine yd hg16_16 0 ?_
          refine ys 2 ⟨lg call25 (ok_wherrylaw17_wakes _ _ hv173) 257⟩ ?_
          refine ye [257,4] ?_
          exact hl176 _ (zi h).symm
         ·refine yx hn 3 ?_
          refine yd hg16_2 0 ?_
          refine yk [13] [] ?_
          refine yt (241,.agg [vi v169.1.Origin,vi v169.1.Number,.fr (.own 46) false 8 (flatten (map T_Mail.ienc v169.1.Mails))]) 0 ⟨op_loadA_take _ _ _ _ underlying24 rfl sz24 rfl rfl⟩ ?_
          refine yS (.agg [vi 0,vi 0,vz]) 0 ⟨op_build _ _ _ _ [1,1,1] _ _ underlying24 zr24 (fs24 _ underlying24) Src.nil rfl rfl rfl⟩ ?_
          refine yS (vb v171) 2 ⟨op_call _ _ 22 _ _ rfl call22 rfl ((ok_wherrykeep_Bundle (T_Bundle.mk v169.1.Origin v169.1.Number v169.1.Mails) (T_Bundle.mk 0 0 []) _ hv171).args (subs_cons (sub_refl _) (subs_cons (sub_agg (subs_cons (sub_refl _) (subs_cons (sub_refl _) (subs_cons (sub_nil_frs true 8) (subs_nil))))) (subs_nil)))) rfl rfl⟩ ?_
          refine yd hg16_7 4 ?_
          refine yd hg16_11 0 ?_
          refine yk [15] [] ?_
          refine yt (250,.agg [vi v170.1.Origin,vi v170.1.Number,.fr (.own 46) false 8 (flatten (map T_Mail.ienc v170.1.Mails))]) 1 ⟨op_loadA_take _ _ _ _ underlying24 rfl sz24 rfl rfl⟩ ?_
          refine ys 2 ⟨lk call22 (ok_wherrykeep_Bundle _ _ _ hv172)⟩ ?_
          refine yd hg16_16 3 ?_
          refine ye [257,4] ?_
          exact hl176 _ (zi h).symm
        ·refine yx hn 3 ?_
         refine yd hg16_2 0 ?_
         refine yk [13] [] ?_
         refine yt (241,.agg [vi v169.1.Origin,vi v169.1.Number,.fr (.own 46) false 8 (flatten (map T_Mail.ienc v169.1.Mails))]) 0 ⟨op_loadA_take _ _ _ _ underlying24 rfl sz24 rfl rfl⟩ ?_
         refine yS (.agg [vi 0,vi 0,vz]) 0 ⟨op_build _ _ _ _ [1,1,1] _ _ underlying24 zr24 (fs24 _ underlying24) Src.nil rfl rfl rfl⟩ ?_
         refine yS (vb v171) 2 ⟨op_call _ _ 22 _ _ rfl call22 rfl ((ok_wherrykeep_Bundle (T_Bundle.mk v169.1.Origin v169.1.Number v169.1.Mails) (T_Bundle.mk 0 0 []) _ hv171).args (subs_cons (sub_refl _) (subs_cons (sub_agg (subs_cons (sub_refl _) (subs_cons (sub_refl _) (subs_cons (sub_nil_frs true 8) (subs_nil))))) (subs_nil)))) rfl rfl⟩ ?_
         refine yd hg16_7 4 ?_
         refine yd hg16_11 8 ?_
         refine ye [257,4] ?_
         exact hl176 _ (zi h).symm
       ·refine yx hn 3 ?_
        refine yd hg16_2 0 ?_
        refine yk [13] [] ?_
        refine yt (241,.agg [vi v169.1.Origin,vi v169.1.Number,.fr (.own 46) false 8 (flatten (map T_Mail.ienc v169.1.Mails))]) 0 ⟨op_loadA_take _ _ _ _ underlying24 rfl sz24 rfl rfl⟩ ?_
        refine yS (.agg [vi 0,vi 0,vz]) 0 ⟨op_build _ _ _ _ [1,1,1] _ _ underlying24 zr24 (fs24 _ underlying24) Src.nil rfl rfl rfl⟩ ?_
        refine yS (vb v171) 2 ⟨op_call _ _ 22 _ _ rfl call22 rfl ((ok_wherrykeep_Bundle (T_Bundle.mk v169.1.Origin v169.1.Number v169.1.Mails) (T_Bundle.mk 0 0 []) _ hv171).args (subs_cons (sub_refl _) (subs_cons (sub_agg (subs_cons (sub_refl _) (subs_cons (sub_refl _) (subs_cons (sub_nil_frs true 8) (subs_nil))))) (subs_nil)))) rfl rfl⟩ ?_
        refine yd hg16_7 12 ?_
        refine ye [257,4] ?_
        exact hl176 _ (zi h).symm
      ·refine yx hn 3 ?_
       refine yd hg16_2 17 ?_
       refine ye [257,4] ?_
       exact hl176 _ (zi h).symm
    ·rintro u162 hl163 hr164 s159 rr167 h ho165
     refine ht_seq ?_
     refine ht_seq ?_
     obtain ⟨v5, hv5, h⟩:=zn h
     obtain ⟨v6, hv6, h⟩:=zn h
     refine yx hn 2 ?_
     refine yS (.eref (.slot 5) (v5 * 1)) 0 ⟨op_ix_mk _ _ _ _ _ _ _ underlying25 sz5 rfl rfl rfl (ix_ok hv5).1 (mk_lt' (ix_ok hv5).2) rfl⟩ ?_
     refine yS (.v (.int .u8 v6)) 1 ⟨op_load_mk _ _ _ _ _ _ underlying5 rfl rfl rfl (map_get hv6)⟩ ?_
     refine yee [1,257,2,5,7,31] ?_
     refine ht_cond _ rfl (fun hb168 => ?_) (fun hb168 => ?_)
     ·have h:=cond_t hb168 h
      refine ht_skip ?_
      refine pt_then ?_
      refine ht_block ?_
      obtain ⟨v8, hv8, h⟩:=zn h
      refine yx hn 1 ?_
      refine ys 0 ⟨lb hv8⟩ ?_
      refine yw [7] 1 ?_
      refine ye [1,257,2,5,7] ?_
      refine pt_inb ?_
      exact pt_next _ (zi h).symm rfl
     ·have h:=cond_f hb168 h
      refine ht_exit ?_
      refine pt_x_then ?_
      refine pt_x_then ?_
      refine pt_x_in ?_
      refine pt_pick [0,1,2,3,4] (by kernel_rfl) (es':=[(_,_),(_,_),(_,_),(_,_),(_,_)]) rfl ?_
      exact hl163 _ (ho165 _ (zi h).symm).symm

end Go.Proofs.YtglabbpbianmnaaGreatDoor
