/-
 The model's runs are what is told in Lean.
-/
import Derived.Test.YtjnnkhmhjcjhdaaGreatDoorOkc9
set_option linter.unusedVariables false
set_option linter.unusedSimpArgs false
set_option maxHeartbeats 1000000
namespace Go.Proofs.YtjnnkhmhjcjhdaaGreatDoor
open Go.Abs Go.Abs.Sh Tryz
open List (map flatten)
open Value (int)

theorem jl (mx:Int×Nat×Value) (lines:(List Int)) (more:(List Int)) (r:Bool) (h:Sh.cT lines more=some r):fk Tryz.prog (GL mx) 6 [.fl .shr 1 (map (int .i64) lines),.fl .shr 1 (map (int .u8) more)] (.v (.bool r)):=by
 unfold Sh.cT at h
 refine yG 205 func6 fun g0 hn hio => ?_
 refine aI hn 1 [0,1,205] ?_
 refine ab ?_
 refine eC hn 4 ?_
 refine ox 4 h (fun (s1023:Bool)=>[(24,.v (.bool s1023)),(0,fi lines),(1,fb more),(205,.glob (GL mx))]) ?_ ?_
 ·intro s1023 h
  refine yw [] 0 ?_
  refine aT [0,1,205,24] ?_
  refine al _ rfl (fun hb1028 => ?_) (fun hb1028 => ?_)
  ·have h:=ap hb1028 h
   refine aI hn 1 [205,4] ?_
   refine am ?_
   refine ah [1] (by kernel_rfl) (es':=[(_,_)]) rfl ?_
   refine ai ?_
   obtain rfl:=zi h
   exact ao hio rfl (.tmp _ _ .nil) rfl rfl
  ·have h:=aq hb1028 h
   refine ar (ag ?_)
   refine eC hn 0 ?_
   refine yS (.fl (.own 9) 1 (map Value.string ([(⟨#[77,65,73,76,32,70,82,79,77,58,60,120,64,121,62]⟩:Fa),(⟨#[82,67,80,84,32,84,79,58,60,99,64,98,62]⟩:Fa),(⟨#[82,83,69,84]⟩:Fa),(⟨#[78,79,79,80]⟩:Fa),(⟨#[69,72,76,79,32,104]⟩:Fa),(⟨#[69,84,82,78,32,98]⟩:Fa),(⟨#[65,85,84,72,32,67,82,65,77,45,77,68,53]⟩:Fa),(⟨#[65,84,82,78]⟩:Fa),(⟨#[86,82,70,89,32,120]⟩:Fa),(⟨#[68,65,84,65]⟩:Fa),(⟨#[77,65,73,76,32,70,82,79,77,58,60,120,64,121,62,32,83,73,90,69,61,57,57,57,57,57,57]⟩:Fa)]))) 0 ⟨bb _ _ 1 (.string ByteArray.empty) (map Value.string ([(⟨#[77,65,73,76,32,70,82,79,77,58,60,120,64,121,62]⟩:Fa),(⟨#[82,67,80,84,32,84,79,58,60,99,64,98,62]⟩:Fa),(⟨#[82,83,69,84]⟩:Fa),(⟨#[78,79,79,80]⟩:Fa),(⟨#[69,72,76,79,32,104]⟩:Fa),(⟨#[69,84,82,78,32,98]⟩:Fa),(⟨#[65,85,84,72,32,67,82,65,77,45,77,68,53]⟩:Fa),(⟨#[65,84,82,78]⟩:Fa),(⟨#[86,82,70,89,32,120]⟩:Fa),(⟨#[68,65,84,65]⟩:Fa),(⟨#[77,65,73,76,32,70,82,79,77,58,60,120,64,121,62,32,83,73,90,69,61,57,57,57,57,57,57]⟩:Fa)])) [(0,.string (⟨#[77,65,73,76,32,70,82,79,77,58,60,120,64,121,62]⟩:Fa)),(1,.string (⟨#[82,67,80,84,32,84,79,58,60,99,64,98,62]⟩:Fa)),(2,.string (⟨#[82,83,69,84]⟩:Fa)),(3,.string (⟨#[78,79,79,80]⟩:Fa)),(4,.string (⟨#[69,72,76,79,32,104]⟩:Fa)),(5,.string (⟨#[69,84,82,78,32,98]⟩:Fa)),(6,.string (⟨#[65,85,84,72,32,67,82,65,77,45,77,68,53]⟩:Fa)),(7,.string (⟨#[65,84,82,78]⟩:Fa)),(8,.string (⟨#[86,82,70,89,32,120]⟩:Fa)),(9,.string (⟨#[68,65,84,65]⟩:Fa)),(10,.string (⟨#[77,65,73,76,32,70,82,79,77,58,60,120,64,121,62,32,83,73,90,69,61,57,57,57,57,57,57]⟩:Fa))] underlying49 pW Cf (fun _ V w o a hv hes=>by simp only [List.map_toArray,List.map_cons,List.map_nil]; try rfl) (cn (by simp [Instr.fill,Value.cells]; rfl) (by simp [List.range,List.range.loop] <;> rfl)) (by simp [Value.oneCell']) rfl (by decide) (by decide) (by decide)⟩ ?_
   refine ya 0 ?_
   refine aT [0,1,205,5] ?_
   refine ab ?_
   obtain ⟨v7,hv7,h⟩:=zn h
   refine yx hn 0 ?_
   refine ys 0 ⟨lk call22 (lC _ _ hv7)⟩ ?_
   refine yS (.box 30 [vi 0,vs z0,vb false,vs z0,vs z0,vz,vb false,vz,vs z0,vb false]) 0 ⟨oA (aP _ _ qI)⟩ ?_
   refine yk [26,6] [] ?_
   refine yt (6,.box 30 [vi v7.ES,vs v7.EE,vb v7.EA.EM,vs v7.EA.EI,vs v7.EA.Ex,.fl (.own 26) 3 (flatten (map ae.enc v7.To)),vb v7.EU,.fl (.own 5) 1 (map (int .u8) v7.Eu),vs v7.Ev,vb v7.ET]) 0 ⟨aK _ _ _ _ _ _ _ _ nq rfl rfl rfl (zl rfl) rfl rfl⟩ ?_
   refine aT [0,1,205,5,6] ?_
   refine ab ?_
   refine aI hn 1 [0,1,205,5,6,7] ?_
   refine pT 4 hio (es':=[(0,fi lines),(1,fb more),(205,.glob (GL mx)),(5,.fl (.own 9) 1 (map Value.string ([(⟨#[77,65,73,76,32,70,82,79,77,58,60,120,64,121,62]⟩:Fa),(⟨#[82,67,80,84,32,84,79,58,60,99,64,98,62]⟩:Fa),(⟨#[82,83,69,84]⟩:Fa),(⟨#[78,79,79,80]⟩:Fa),(⟨#[69,72,76,79,32,104]⟩:Fa),(⟨#[69,84,82,78,32,98]⟩:Fa),(⟨#[65,85,84,72,32,67,82,65,77,45,77,68,53]⟩:Fa),(⟨#[65,84,82,78]⟩:Fa),(⟨#[86,82,70,89,32,120]⟩:Fa),(⟨#[68,65,84,65]⟩:Fa),(⟨#[77,65,73,76,32,70,82,79,77,58,60,120,64,121,62,32,83,73,90,69,61,57,57,57,57,57,57]⟩:Fa)]))),(6,.box 30 [.v (.int .i64 v7.ES),.v (.string v7.EE),.v (.bool v7.EA.EM),.v (.string v7.EA.EI),.v (.string v7.EA.Ex),.fl .ro 3 (flatten (map ae.enc v7.To)),.v (.bool v7.EU),.fl .ro 1 (map (int .u8) v7.Eu),.v (.string v7.Ev),.v (.bool v7.ET)]),(7,.v (.int .i64 0))]) rfl ?_
   refine aX h (fun ((s1524,s1525,s1526,s1527,s1528,s1529,s1530,s1531,s1532,s1533,s1534):Int×Fa×Bool×Fa×Fa×(List ae)×Bool×(List Int)×Fa×Bool×Int)=>[(0,fi lines),(1,fb more),(205,.glob (GL mx)),(5,.fl (.own 9) 1 (map Value.string ([(⟨#[77,65,73,76,32,70,82,79,77,58,60,120,64,121,62]⟩:Fa),(⟨#[82,67,80,84,32,84,79,58,60,99,64,98,62]⟩:Fa),(⟨#[82,83,69,84]⟩:Fa),(⟨#[78,79,79,80]⟩:Fa),(⟨#[69,72,76,79,32,104]⟩:Fa),(⟨#[69,84,82,78,32,98]⟩:Fa),(⟨#[65,85,84,72,32,67,82,65,77,45,77,68,53]⟩:Fa),(⟨#[65,84,82,78]⟩:Fa),(⟨#[86,82,70,89,32,120]⟩:Fa),(⟨#[68,65,84,65]⟩:Fa),(⟨#[77,65,73,76,32,70,82,79,77,58,60,120,64,121,62,32,83,73,90,69,61,57,57,57,57,57,57]⟩:Fa)]))),(6,.box 30 [vi s1524,vs s1525,vb s1526,vs s1527,vs s1528,.fl .ro 3 (flatten (map ae.enc s1529)),vb s1530,.fl .ro 1 (map (int .u8) s1531),vs s1532,vb s1533]),(7,vi s1534)]) (fun (():Unit)=>[(1,fb more),(205,.glob (GL mx))]) ?_ ?_
   ·rintro ⟨⟩ h
    refine ag (ab ?_)
    obtain ⟨v1021,hv1021,h⟩:=zn h
    obtain ⟨v1022,hv1022,h⟩:=zn h
    obtain ⟨v2025,hv2025,h⟩:=zn h
    obtain ⟨v2026,hv2026,h⟩:=zn h
    refine yx hn 0 ?_
    refine ys 0 ⟨lk call20 (dr _ hv1021)⟩ ?_
    refine ys 0 ⟨lk call22 (lC _ _ hv1022)⟩ ?_
    refine yS (.fl (.own 5) 1 (map (int .u8) [81,85,73,84,13,10])) 0 ⟨bb _ _ 1 (.int .u8 0) (map (int .u8) [81,85,73,84,13,10]) [(0,.int .u8 81),(1,.int .u8 85),(2,.int .u8 73),(3,.int .u8 84),(4,.int .u8 13),(5,.int .u8 10)] underlying28 jA rb (fun _ V w o a hv hes=>by simp only [List.map_toArray,List.map_cons,List.map_nil]; try rfl) (cn (by simp [Instr.fill,Value.cells]; rfl) (by simp [List.range,List.range.loop] <;> rfl)) (by simp [Value.oneCell']) rfl (by decide) (by decide) (by decide)⟩ ?_
    refine yk [179] [] ?_
    refine yt (180,.mkr 5 (map (int .u8) [81,85,73,84,13,10])) 1 ⟨uy _ _ _ underlying28 underlying5 (by intro h; cases h)⟩ ?_
    refine yk [180] [181] ?_
    refine kU (180,.any) (182,.mkr 5 (map (int .u8) v2025)) 0 ⟨nP _ _ _ _ _ ia rfl rfl rfl rfl hv2025 rfl⟩ ?_
    refine ys 0 ⟨lg call13 (jL _ _ _ _ _ _ _ hv2026) 205⟩ ?_
    refine ym 0 ?_
    refine yS (.agg [vi v2026.1.ES,vs v2026.1.EE,vb v2026.1.EA.EM,vs v2026.1.EA.EI,vs v2026.1.EA.Ex,.fl .ro 3 (flatten (map ae.enc v2026.1.To)),vb v2026.1.EU,.fl .ro 1 (map (int .u8) v2026.1.Eu),vs v2026.1.Ev,vb v2026.1.ET]) 2 ⟨dP _ _ _ _ _ _ rfl rfl (zl rfl) rfl rfl⟩ ?_
    refine yS (.box 30 [vi 0,vs z0,vb false,vs z0,vs z0,vz,vb false,vz,vs z0,vb false]) 3 ⟨oA (aP _ _ qI)⟩ ?_
    refine aT [205,15,16] ?_
    refine eC hn 3 ?_
    refine ox 4 h (fun (s2027:Bool)=>[(193,.v (.bool s2027)),(205,.glob (GL mx)),(15,.fr .ro false 12 (flatten (map au.ienc v2026.2.1)))]) ?_ ?_
    ·intro s2027 h
     refine yw [] 1 ?_
     refine ox 7 h (fun (s2032:Bool)=>[(201,.v (.bool s2032)),(205,.glob (GL mx))]) ?_ ?_
     ·intro s2032 h
      refine yw [] 1 ?_
      refine ox 2 h (fun (s2039:Bool)=>[(204,.v (.bool s2039)),(205,.glob (GL mx))]) ?_ ?_
      ·intro s2039 h
       refine yw [] 1 ?_
       refine aT [205,4] ?_
       refine am ?_
       refine ah [1] (by kernel_rfl) (es':=[(_,_)]) rfl ?_
       obtain rfl:=zi h
       exact ao hio rfl (.tmp _ _ .nil) rfl rfl
      ·intro u2040 h hl2041 hr2042
       refine ak h (fun hg2043 h => ?_) (fun hg2043 h => ?_)
       ·obtain ⟨v2037,hv2037,h⟩:=zn h
        refine yd hg2043 0 ?_
        refine ys 1 ⟨lg call14 (lw _ _ hv2037) 205⟩ ?_
        exact gZ [204,205] (hl2041 _ (zi h).symm)
       ·refine yd hg2043 2 ?_
        exact gZ [204,205] (hl2041 _ (zi h).symm)
     ·intro u2033 h hl2034 hr2035
      refine ak h (fun hg2036 h => ?_) (fun hg2036 h => ?_)
      ·obtain ⟨v2037,hv2037,h⟩:=zn h
       obtain ⟨v2038,hv2038,h⟩:=zn h
       refine yd hg2036 1 ?_
       refine ys 2 ⟨lI hv2037⟩ ?_
       refine yS (vi v2038.EV.Ew) 2 ⟨bR _ _ _ _ _ _ _ underlying3 rfl rfl rfl (bU (j:=0) au.ilen hv2038 rfl) (.v _)⟩ ?_
       exact gZ [201,205] (hl2034 _ (zi h).symm)
      ·refine yd hg2036 7 ?_
       exact gZ [201,205] (hl2034 _ (zi h).symm)
    ·intro u2028 h hl2029 hr2030
     refine ak h (fun hg2031 h => ?_) (fun hg2031 h => ?_)
     ·refine yd hg2031 4 ?_
      exact gZ [193,205,15] (hl2029 _ (zi h).symm)
     ·refine yd hg2031 4 ?_
      exact gZ [193,205,15] (hl2029 _ (zi h).symm)
   ·rintro u1777 hl1778 hr1779 ⟨s1524,s1525,s1526,s1527,s1528,s1529,s1530,s1531,s1532,s1533,s1534⟩ rr1782 h ho1780
    refine ab ?_
    refine aI hn 4 [0,1,205,5,6,7,30] ?_
    refine al _ rfl (fun hb1783 => ?_) (fun hb1783 => ?_)
    ·have h:=ap hb1783 h
     refine ar ?_
     refine ag (ab ?_)
     refine aD h (fun ((s1898,s1899,s1900,s1901,s1902,s1903,s1904,s1905,s1906,s1907):Int×Fa×Bool×Fa×Fa×(List ae)×Bool×(List Int)×Fa×Bool)=>[(0,fi lines),(1,fb more),(205,.glob (GL mx)),(5,.fl (.own 9) 1 (map Value.string ([(⟨#[77,65,73,76,32,70,82,79,77,58,60,120,64,121,62]⟩:Fa),(⟨#[82,67,80,84,32,84,79,58,60,99,64,98,62]⟩:Fa),(⟨#[82,83,69,84]⟩:Fa),(⟨#[78,79,79,80]⟩:Fa),(⟨#[69,72,76,79,32,104]⟩:Fa),(⟨#[69,84,82,78,32,98]⟩:Fa),(⟨#[65,85,84,72,32,67,82,65,77,45,77,68,53]⟩:Fa),(⟨#[65,84,82,78]⟩:Fa),(⟨#[86,82,70,89,32,120]⟩:Fa),(⟨#[68,65,84,65]⟩:Fa),(⟨#[77,65,73,76,32,70,82,79,77,58,60,120,64,121,62,32,83,73,90,69,61,57,57,57,57,57,57]⟩:Fa)]))),(6,.box 30 [vi s1898,vs s1899,vb s1900,vs s1901,vs s1902,.fl .ro 3 (flatten (map ae.enc s1903)),vb s1904,.fl .ro 1 (map (int .u8) s1905),vs s1906,vb s1907]),(7,vi s1534)]) ?_ ?_
     ·rintro ⟨s1898,s1899,s1900,s1901,s1902,s1903,s1904,s1905,s1906,s1907⟩ h
      refine ag ?_
      obtain ⟨v266,hv266,h⟩:=zn h
      refine yx hn 1 ?_
      refine ys 0 ⟨lb hv266⟩ ?_
      refine yw [7] 1 ?_
      refine ye [0,1,205,5,6,7] ?_
      exact bi _ (zi h).symm rfl
     ·intro u1908 h hl1909 hr1910
      refine aH (ab ?_)
      obtain ⟨v9,hv9,h⟩:=zn h
      obtain ⟨v10,hv10,h⟩:=zn h
      obtain ⟨v11,hv11,h⟩:=zn h
      obtain ⟨v12,hv12,h⟩:=zn h
      obtain ⟨v13,hv13,h⟩:=zn h
      obtain ⟨v14,hv14,h⟩:=zn h
      refine yx hn 2 ?_
      refine ys 0 ⟨li hv9⟩ ?_
      refine ys 0 ⟨ll hv10⟩ ?_
      refine ys 2 ⟨lv hv11⟩ ?_
      refine ys 0 ⟨lv hv12⟩ ?_
      refine ys 0 ⟨lB (jK hv13)⟩ ?_
      refine ys 1 ⟨lv hv14⟩ ?_
      refine aT [0,1,205,5,6,7,8] ?_
      refine aI hn 3 [0,1,205,5,6,7,8,9] ?_
      refine ab ?_
      obtain ⟨v15,hv15,h⟩:=zn h
      obtain ⟨v16,hv16,h⟩:=zn h
      obtain ⟨v17,hv17,h⟩:=zn h
      obtain ⟨v18,hv18,h⟩:=zn h
      obtain ⟨v19,hv19,h⟩:=zn h
      obtain ⟨v20,hv20,h⟩:=zn h
      refine nu (by kernel_rfl) hn (El:=(_::_::_::_::_::_::_::_::(46,.agg (aC.c v15 []))::(47,.agg [vi s1524,vs s1525,vb s1526,vs s1527,vs s1528,.fl .ro 3 (flatten (map ae.enc s1529)),vb s1530,.fl .ro 1 (map (int .u8) s1531),vs s1532,vb s1533])::(48,.same (.slot 5))::(49,vi v14)::(50,.eref (.slot 5) (v16 * 1))::(51,vs v17)::(52,vs v18)::(53,.mkr 5 (map (int .u8) v19))::(54,.tup [.agg [vi v20.1.ES,vs v20.1.EE,vb v20.1.EA.EM,vs v20.1.EA.EI,vs v20.1.EA.Ex,.fl .ro 3 (flatten (map ae.enc v20.1.To)),vb v20.1.EU,.fl .ro 1 (map (int .u8) v20.1.Eu),vs v20.1.Ev,vb v20.1.ET],.fr .ro false 12 (flatten (map au.ienc v20.2.1)),vi v20.2.2])::(45,.tup [.agg [vi v20.1.ES,vs v20.1.EE,vb v20.1.EA.EM,vs v20.1.EA.EI,vs v20.1.EA.Ex,.fl .ro 3 (flatten (map ae.enc v20.1.To)),vb v20.1.EU,.fl .ro 1 (map (int .u8) v20.1.Eu),vs v20.1.Ev,vb v20.1.ET],.any,.any])::(45,.tup [.any,.fr .ro false 12 (flatten (map au.ienc v20.2.1)),vi v20.2.2])::(55,.agg [vi v20.1.ES,vs v20.1.EE,vb v20.1.EA.EM,vs v20.1.EA.EI,vs v20.1.EA.Ex,.fl .ro 3 (flatten (map ae.enc v20.1.To)),vb v20.1.EU,.fl .ro 1 (map (int .u8) v20.1.Eu),vs v20.1.Ev,vb v20.1.ET])::(45,.tup [.any,.any,.any])::(56,.fr .ro false 12 (flatten (map au.ienc v20.2.1)))::(57,vi v20.2.2)::(10,.box 30 [vi 0,vs z0,vb false,vs z0,vs z0,vz,vb false,vz,vs z0,vb false])::(10,.box 30 [vi v20.1.ES,vs v20.1.EE,vb v20.1.EA.EM,vs v20.1.EA.EI,vs v20.1.EA.Ex,.fl .ro 3 (flatten (map ae.enc v20.1.To)),vb v20.1.EU,.fl .ro 1 (map (int .u8) v20.1.Eu),vs v20.1.Ev,vb v20.1.ET])::(11,.fr .ro false 12 (flatten (map au.ienc v20.2.1)))::(12,vi v20.2.2)::[])) (init:=[0,1,2,3,4,5,6,7]) (fin:=[0,1,2,3,4,5,6,7,24,25,26]) (sps:=(zq [] 8 46::zq [4] 9 47::zq [3] 10 48::zq [6] 11 49::zq [10,3,11] 12 50::zq [12,3] 13 51::zq [13] 14 52::zq [14] 15 53::zq [8,9,15,2] 16 54::⟨[],[16],[17,18],[(.slot 45)]⟩::⟨[],[17],[20,19],[(.slot 55)]⟩::zq [18] 21 56::zq [18] 22 57::zq [] 23 10::⟨[19],[23],[24],[.cell 10 0,.cell 10 1,.cell 10 2,.cell 10 3,.cell 10 4,.cell 10 5,.cell 10 6,.cell 10 7,.cell 10 8,.cell 10 9]⟩::zq [21] 25 11::zq [22] 26 12::[])) (es':=[(_,_),(_,_),(_,_),(_,_),(_,_),(_,_),(_,_),(_,_),(10,.box 30 [vi v20.1.ES,vs v20.1.EE,vb v20.1.EA.EM,vs v20.1.EA.EI,vs v20.1.EA.Ex,.fl .ro 3 (flatten (map ae.enc v20.1.To)),vb v20.1.EU,.fl .ro 1 (map (int .u8) v20.1.Eu),vs v20.1.Ev,vb v20.1.ET]),(11,.fr .ro false 12 (flatten (map au.ienc v20.2.1))),(12,vi v20.2.2)]) (by kernel_rfl) rfl rfl ⟨zp rfl (pw _ _ 20 _ _ rfl call20 rfl (dr  _ hv15) rfl rfl),zp rfl (sO _ _ _ _ _ _ _ underlying30 rfl nq rfl rfl (zl rfl) rfl rfl),z1 rfl,z1 rfl,zp rfl (xf _ _ _ _ _ _ _ _ underlying49 pW (by decide) rfl rfl rfl (bk hv16).1 (rV (bk hv16).2) rfl),zp rfl (rz _ _ _ _ _ _ underlying9 rfl rfl rfl (sr hv17)),zp rfl (oB rfl (dW hv18)),zp rfl ((Option.some.inj hv19) ▸ rG _ _ _ v18 underlying9 underlying28 underlying5 rfl),zp rfl (pR _ _ 205 13 _ _ rfl call13 rfl rfl (fun _ h=>h) (jL mx ((aC.r v15)) 0 1 ((az.mk s1524 s1525 (ae.mk s1526 s1527 s1528) s1529 s1530 s1531 s1532 s1533)) v19 _ hv20) rfl rfl),zp rfl (aL.split (A:=[]) 45 0 _ _ _ (iq _ _ _ _ rfl) (zl rfl) rfl rfl),zp rfl (eZ _ _ _ _ _ rfl (zl rfl) rfl rfl (by decide) rfl),zp rfl (oE rfl),zp rfl (oE rfl),zp rfl (aP _ _ qI),zp rfl (oS nq rfl),z2 rfl,z2 rfl,zz⟩ ?_
      refine ag (ab ?_)
      refine eC hn 3 ?_
      refine ox 16 h (fun (s1911:Bool)=>[(76,.v (.bool s1911)),(0,fi lines),(1,fb more),(205,.glob (GL mx)),(5,.fl (.own 9) 1 (map Value.string ([(⟨#[77,65,73,76,32,70,82,79,77,58,60,120,64,121,62]⟩:Fa),(⟨#[82,67,80,84,32,84,79,58,60,99,64,98,62]⟩:Fa),(⟨#[82,83,69,84]⟩:Fa),(⟨#[78,79,79,80]⟩:Fa),(⟨#[69,72,76,79,32,104]⟩:Fa),(⟨#[69,84,82,78,32,98]⟩:Fa),(⟨#[65,85,84,72,32,67,82,65,77,45,77,68,53]⟩:Fa),(⟨#[65,84,82,78]⟩:Fa),(⟨#[86,82,70,89,32,120]⟩:Fa),(⟨#[68,65,84,65]⟩:Fa),(⟨#[77,65,73,76,32,70,82,79,77,58,60,120,64,121,62,32,83,73,90,69,61,57,57,57,57,57,57]⟩:Fa)]))),(6,.box 30 [.v (.int .i64 s1524),.v (.string s1525),.v (.bool s1526),.v (.string s1527),.v (.string s1528),.fl .ro 3 (flatten (map ae.enc s1529)),.v (.bool s1530),.fl .ro 1 (map (int .u8) s1531),.v (.string s1532),.v (.bool s1533)]),(7,.v (.int .i64 s1534)),(8,.v (.int .i64 v14)),(9,.v (.int .i64 s1524)),(10,.box 30 [.v (.int .i64 v20.1.ES),.v (.string v20.1.EE),.v (.bool v20.1.EA.EM),.v (.string v20.1.EA.EI),.v (.string v20.1.EA.Ex),.fl .ro 3 (flatten (map ae.enc v20.1.To)),.v (.bool v20.1.EU),.fl .ro 1 (map (int .u8) v20.1.Eu),.v (.string v20.1.Ev),.v (.bool v20.1.ET)]),(11,.fr .ro false 12 (flatten (map au.ienc v20.2.1)))]) ?_ ?_
      ·intro s1911 h
       refine yw [] 0 ?_
       refine aT [0,1,205,5,6,7,8,9,10,11,76] ?_
       refine al _ rfl (fun hb1931 => ?_) (fun hb1931 => ?_)
       ·have h:=ap hb1931 h
        refine aI hn 1 [205,4] ?_
        refine am ?_
        refine ah [1] (by kernel_rfl) (es':=[(_,_)]) rfl ?_
        refine ai (aG (ai (ai (aG (ai ?_)))))
        have h:=hr1910 _ (zi h).symm
        have h:=hr1779 _ (ho1780 _ (zi h).symm).symm
        obtain rfl:=zi h
        exact ao hio rfl (.tmp _ _ .nil) rfl rfl
       ·have h:=aq hb1931 h
        refine ar ?_
        refine ag (ab ?_)
        refine aI hn 3 [0,1,205,5,6,7,8,9,10,11,79] ?_
        refine al _ rfl (fun hb1932 => ?_) (fun hb1932 => ?_)
        ·have h:=ap hb1932 h
         refine aI hn 2 [0,1,205,5,6,7] ?_
         refine bh (aB (bf ?_))
         exact hl1909 _ (zi h).symm
        ·have h:=aq hb1932 h
         refine ar ?_
         refine ag (ab ?_)
         refine ab ?_
         obtain ⟨v43,hv43,h⟩:=zn h
         obtain ⟨v44,hv44,h⟩:=zn h
         refine yx hn 1 ?_
         refine ys 2 ⟨lI hv43⟩ ?_
         refine yS (vi v44.EV.Ew) 2 ⟨bR _ _ _ _ _ _ _ underlying3 rfl rfl rfl (bU (j:=0) au.ilen hv44 rfl) (.v _)⟩ ?_
         refine ox 5 h (fun (s1933:Bool)=>[(92,.v (.bool s1933)),(0,fi lines),(1,fb more),(205,.glob (GL mx)),(5,.fl (.own 9) 1 (map Value.string ([(⟨#[77,65,73,76,32,70,82,79,77,58,60,120,64,121,62]⟩:Fa),(⟨#[82,67,80,84,32,84,79,58,60,99,64,98,62]⟩:Fa),(⟨#[82,83,69,84]⟩:Fa),(⟨#[78,79,79,80]⟩:Fa),(⟨#[69,72,76,79,32,104]⟩:Fa),(⟨#[69,84,82,78,32,98]⟩:Fa),(⟨#[65,85,84,72,32,67,82,65,77,45,77,68,53]⟩:Fa),(⟨#[65,84,82,78]⟩:Fa),(⟨#[86,82,70,89,32,120]⟩:Fa),(⟨#[68,65,84,65]⟩:Fa),(⟨#[77,65,73,76,32,70,82,79,77,58,60,120,64,121,62,32,83,73,90,69,61,57,57,57,57,57,57]⟩:Fa)]))),(6,.box 30 [.v (.int .i64 s1524),.v (.string s1525),.v (.bool s1526),.v (.string s1527),.v (.string s1528),.fl .ro 3 (flatten (map ae.enc s1529)),.v (.bool s1530),.fl .ro 1 (map (int .u8) s1531),.v (.string s1532),.v (.bool s1533)]),(7,.v (.int .i64 s1534)),(8,.v (.int .i64 v14)),(9,.v (.int .i64 s1524)),(10,.box 30 [.v (.int .i64 v20.1.ES),.v (.string v20.1.EE),.v (.bool v20.1.EA.EM),.v (.string v20.1.EA.EI),.v (.string v20.1.EA.Ex),.fl .ro 3 (flatten (map ae.enc v20.1.To)),.v (.bool v20.1.EU),.fl .ro 1 (map (int .u8) v20.1.Eu),.v (.string v20.1.Ev),.v (.bool v20.1.ET)]),(11,.fr .ro false 12 (flatten (map au.ienc v20.2.1)))]) ?_ ?_
         ·intro s1933 h
          refine yw [] 0 ?_
          refine aT [0,1,205,5,6,7,8,9,10,11,92] ?_
          refine al _ rfl (fun hb1938 => ?_) (fun hb1938 => ?_)
          ·have h:=ap hb1938 h
           refine aI hn 1 [205,4] ?_
           refine am ?_
           refine ah [1] (by kernel_rfl) (es':=[(_,_)]) rfl ?_
           refine ai (aG (ai (ai (aG (ai ?_)))))
           have h:=hr1910 _ (zi h).symm
           have h:=hr1779 _ (ho1780 _ (zi h).symm).symm
           obtain rfl:=zi h
           exact ao hio rfl (.tmp _ _ .nil) rfl rfl
          ·have h:=aq hb1938 h
           refine ar (ag ?_)
           refine eC hn 3 ?_
           refine ox 3 h (fun (s1939:Bool)=>[(98,.v (.bool s1939)),(0,fi lines),(1,fb more),(205,.glob (GL mx)),(5,.fl (.own 9) 1 (map Value.string ([(⟨#[77,65,73,76,32,70,82,79,77,58,60,120,64,121,62]⟩:Fa),(⟨#[82,67,80,84,32,84,79,58,60,99,64,98,62]⟩:Fa),(⟨#[82,83,69,84]⟩:Fa),(⟨#[78,79,79,80]⟩:Fa),(⟨#[69,72,76,79,32,104]⟩:Fa),(⟨#[69,84,82,78,32,98]⟩:Fa),(⟨#[65,85,84,72,32,67,82,65,77,45,77,68,53]⟩:Fa),(⟨#[65,84,82,78]⟩:Fa),(⟨#[86,82,70,89,32,120]⟩:Fa),(⟨#[68,65,84,65]⟩:Fa),(⟨#[77,65,73,76,32,70,82,79,77,58,60,120,64,121,62,32,83,73,90,69,61,57,57,57,57,57,57]⟩:Fa)]))),(6,.box 30 [.v (.int .i64 s1524),.v (.string s1525),.v (.bool s1526),.v (.string s1527),.v (.string s1528),.fl .ro 3 (flatten (map ae.enc s1529)),.v (.bool s1530),.fl .ro 1 (map (int .u8) s1531),.v (.string s1532),.v (.bool s1533)]),(7,.v (.int .i64 s1534)),(8,.v (.int .i64 v14)),(9,.v (.int .i64 s1524)),(10,.box 30 [.v (.int .i64 v20.1.ES),.v (.string v20.1.EE),.v (.bool v20.1.EA.EM),.v (.string v20.1.EA.EI),.v (.string v20.1.EA.Ex),.fl .ro 3 (flatten (map ae.enc v20.1.To)),.v (.bool v20.1.EU),.fl .ro 1 (map (int .u8) v20.1.Eu),.v (.string v20.1.Ev),.v (.bool v20.1.ET)]),(11,.fr .ro false 12 (flatten (map au.ienc v20.2.1)))]) ?_ ?_
           ·intro s1939 h
            refine yw [] 1 ?_
            refine aT [0,1,205,5,6,7,8,9,10,11,13] ?_
            refine ab ?_
            refine eC hn 3 ?_
            refine ox 22 h (fun (s1944:Bool)=>[(123,.v (.bool s1944)),(0,fi lines),(1,fb more),(205,.glob (GL mx)),(5,.fl (.own 9) 1 (map Value.string ([(⟨#[77,65,73,76,32,70,82,79,77,58,60,120,64,121,62]⟩:Fa),(⟨#[82,67,80,84,32,84,79,58,60,99,64,98,62]⟩:Fa),(⟨#[82,83,69,84]⟩:Fa),(⟨#[78,79,79,80]⟩:Fa),(⟨#[69,72,76,79,32,104]⟩:Fa),(⟨#[69,84,82,78,32,98]⟩:Fa),(⟨#[65,85,84,72,32,67,82,65,77,45,77,68,53]⟩:Fa),(⟨#[65,84,82,78]⟩:Fa),(⟨#[86,82,70,89,32,120]⟩:Fa),(⟨#[68,65,84,65]⟩:Fa),(⟨#[77,65,73,76,32,70,82,79,77,58,60,120,64,121,62,32,83,73,90,69,61,57,57,57,57,57,57]⟩:Fa)]))),(6,.box 30 [.v (.int .i64 s1524),.v (.string s1525),.v (.bool s1526),.v (.string s1527),.v (.string s1528),.fl .ro 3 (flatten (map ae.enc s1529)),.v (.bool s1530),.fl .ro 1 (map (int .u8) s1531),.v (.string s1532),.v (.bool s1533)]),(7,.v (.int .i64 s1534)),(8,.v (.int .i64 v14)),(9,.v (.int .i64 s1524)),(10,.box 30 [.v (.int .i64 v20.1.ES),.v (.string v20.1.EE),.v (.bool v20.1.EA.EM),.v (.string v20.1.EA.EI),.v (.string v20.1.EA.Ex),.fl .ro 3 (flatten (map ae.enc v20.1.To)),.v (.bool v20.1.EU),.fl .ro 1 (map (int .u8) v20.1.Eu),.v (.string v20.1.Ev),.v (.bool v20.1.ET)]),(11,.fr .ro false 12 (flatten (map au.ienc v20.2.1))),(13,.v (.bool s1939))]) ?_ ?_
            ·intro s1944 h
             refine yw [] 1 ?_
             refine ox 7 h (fun (s1974:Bool)=>[(131,.v (.bool s1974)),(0,fi lines),(1,fb more),(205,.glob (GL mx)),(5,.fl (.own 9) 1 (map Value.string ([(⟨#[77,65,73,76,32,70,82,79,77,58,60,120,64,121,62]⟩:Fa),(⟨#[82,67,80,84,32,84,79,58,60,99,64,98,62]⟩:Fa),(⟨#[82,83,69,84]⟩:Fa),(⟨#[78,79,79,80]⟩:Fa),(⟨#[69,72,76,79,32,104]⟩:Fa),(⟨#[69,84,82,78,32,98]⟩:Fa),(⟨#[65,85,84,72,32,67,82,65,77,45,77,68,53]⟩:Fa),(⟨#[65,84,82,78]⟩:Fa),(⟨#[86,82,70,89,32,120]⟩:Fa),(⟨#[68,65,84,65]⟩:Fa),(⟨#[77,65,73,76,32,70,82,79,77,58,60,120,64,121,62,32,83,73,90,69,61,57,57,57,57,57,57]⟩:Fa)]))),(6,.box 30 [.v (.int .i64 s1524),.v (.string s1525),.v (.bool s1526),.v (.string s1527),.v (.string s1528),.fl .ro 3 (flatten (map ae.enc s1529)),.v (.bool s1530),.fl .ro 1 (map (int .u8) s1531),.v (.string s1532),.v (.bool s1533)]),(7,.v (.int .i64 s1534)),(8,.v (.int .i64 v14)),(9,.v (.int .i64 s1524)),(10,.box 30 [.v (.int .i64 v20.1.ES),.v (.string v20.1.EE),.v (.bool v20.1.EA.EM),.v (.string v20.1.EA.EI),.v (.string v20.1.EA.Ex),.fl .ro 3 (flatten (map ae.enc v20.1.To)),.v (.bool v20.1.EU),.fl .ro 1 (map (int .u8) v20.1.Eu),.v (.string v20.1.Ev),.v (.bool v20.1.ET)]),(11,.fr .ro false 12 (flatten (map au.ienc v20.2.1))),(13,.v (.bool s1939))]) ?_ ?_
             ·intro s1974 h
              refine yw [] 1 ?_
              refine ox 26 h (fun (s1979:Bool)=>[(158,.v (.bool s1979)),(0,fi lines),(1,fb more),(205,.glob (GL mx)),(5,.fl (.own 9) 1 (map Value.string ([(⟨#[77,65,73,76,32,70,82,79,77,58,60,120,64,121,62]⟩:Fa),(⟨#[82,67,80,84,32,84,79,58,60,99,64,98,62]⟩:Fa),(⟨#[82,83,69,84]⟩:Fa),(⟨#[78,79,79,80]⟩:Fa),(⟨#[69,72,76,79,32,104]⟩:Fa),(⟨#[69,84,82,78,32,98]⟩:Fa),(⟨#[65,85,84,72,32,67,82,65,77,45,77,68,53]⟩:Fa),(⟨#[65,84,82,78]⟩:Fa),(⟨#[86,82,70,89,32,120]⟩:Fa),(⟨#[68,65,84,65]⟩:Fa),(⟨#[77,65,73,76,32,70,82,79,77,58,60,120,64,121,62,32,83,73,90,69,61,57,57,57,57,57,57]⟩:Fa)]))),(6,.box 30 [.v (.int .i64 s1524),.v (.string s1525),.v (.bool s1526),.v (.string s1527),.v (.string s1528),.fl .ro 3 (flatten (map ae.enc s1529)),.v (.bool s1530),.fl .ro 1 (map (int .u8) s1531),.v (.string s1532),.v (.bool s1533)]),(7,.v (.int .i64 s1534)),(8,.v (.int .i64 v14)),(9,.v (.int .i64 s1524)),(10,.box 30 [.v (.int .i64 v20.1.ES),.v (.string v20.1.EE),.v (.bool v20.1.EA.EM),.v (.string v20.1.EA.EI),.v (.string v20.1.EA.Ex),.fl .ro 3 (flatten (map ae.enc v20.1.To)),.v (.bool v20.1.EU),.fl .ro 1 (map (int .u8) v20.1.Eu),.v (.string v20.1.Ev),.v (.bool v20.1.ET)]),(11,.fr .ro false 12 (flatten (map au.ienc v20.2.1)))]) ?_ ?_
              ·intro s1979 h
               refine yw [] 1 ?_
               refine ox 15 h (fun (s2009:Bool)=>[(174,.v (.bool s2009)),(0,fi lines),(1,fb more),(205,.glob (GL mx)),(5,.fl (.own 9) 1 (map Value.string ([(⟨#[77,65,73,76,32,70,82,79,77,58,60,120,64,121,62]⟩:Fa),(⟨#[82,67,80,84,32,84,79,58,60,99,64,98,62]⟩:Fa),(⟨#[82,83,69,84]⟩:Fa),(⟨#[78,79,79,80]⟩:Fa),(⟨#[69,72,76,79,32,104]⟩:Fa),(⟨#[69,84,82,78,32,98]⟩:Fa),(⟨#[65,85,84,72,32,67,82,65,77,45,77,68,53]⟩:Fa),(⟨#[65,84,82,78]⟩:Fa),(⟨#[86,82,70,89,32,120]⟩:Fa),(⟨#[68,65,84,65]⟩:Fa),(⟨#[77,65,73,76,32,70,82,79,77,58,60,120,64,121,62,32,83,73,90,69,61,57,57,57,57,57,57]⟩:Fa)]))),(6,.box 30 [.v (.int .i64 s1524),.v (.string s1525),.v (.bool s1526),.v (.string s1527),.v (.string s1528),.fl .ro 3 (flatten (map ae.enc s1529)),.v (.bool s1530),.fl .ro 1 (map (int .u8) s1531),.v (.string s1532),.v (.bool s1533)]),(7,.v (.int .i64 s1534)),(10,.box 30 [.v (.int .i64 v20.1.ES),.v (.string v20.1.EE),.v (.bool v20.1.EA.EM),.v (.string v20.1.EA.EI),.v (.string v20.1.EA.Ex),.fl .ro 3 (flatten (map ae.enc v20.1.To)),.v (.bool v20.1.EU),.fl .ro 1 (map (int .u8) v20.1.Eu),.v (.string v20.1.Ev),.v (.bool v20.1.ET)])]) ?_ ?_
               ·intro s2009 h
                refine yw [] 0 ?_
                refine aT [0,1,205,5,6,7,10,174] ?_
                refine al _ rfl (fun hb2024 => ?_) (fun hb2024 => ?_)
                ·have h:=ap hb2024 h
                 refine aI hn 1 [205,4] ?_
                 refine am ?_
                 refine ah [1] (by kernel_rfl) (es':=[(_,_)]) rfl ?_
                 refine ai (aG (ai (ai (aG (ai ?_)))))
                 have h:=hr1910 _ (zi h).symm
                 have h:=hr1779 _ (ho1780 _ (zi h).symm).symm
                 obtain rfl:=zi h
                 exact ao hio rfl (.tmp _ _ .nil) rfl rfl
                ·have h:=aq hb2024 h
                 refine ar (ag ?_)
                 refine yy hn 2 [0,1,205,5,6,7] ?_
                 refine aJ ?_
                 exact hl1909 _ (zi h).symm
               ·intro u2010 h hl2011 hr2012
                refine ak h (fun hg2013 h => ?_) (fun hg2013 h => ?_)
                ·refine yd hg2013 10 ?_
                 refine yw [] 5 ?_
                 exact gZ [174,0,1,205,5,6,7,10] (hl2011 _ (zi h).symm)
                ·refine yd hg2013 3 ?_
                 refine ox 3 h (fun (s2014:Bool)=>[(165,.v (.bool s2014)),(0,fi lines),(1,fb more),(205,.glob (GL mx)),(5,.fl (.own 9) 1 (map Value.string ([(⟨#[77,65,73,76,32,70,82,79,77,58,60,120,64,121,62]⟩:Fa),(⟨#[82,67,80,84,32,84,79,58,60,99,64,98,62]⟩:Fa),(⟨#[82,83,69,84]⟩:Fa),(⟨#[78,79,79,80]⟩:Fa),(⟨#[69,72,76,79,32,104]⟩:Fa),(⟨#[69,84,82,78,32,98]⟩:Fa),(⟨#[65,85,84,72,32,67,82,65,77,45,77,68,53]⟩:Fa),(⟨#[65,84,82,78]⟩:Fa),(⟨#[86,82,70,89,32,120]⟩:Fa),(⟨#[68,65,84,65]⟩:Fa),(⟨#[77,65,73,76,32,70,82,79,77,58,60,120,64,121,62,32,83,73,90,69,61,57,57,57,57,57,57]⟩:Fa)]))),(6,.box 30 [.v (.int .i64 s1524),.v (.string s1525),.v (.bool s1526),.v (.string s1527),.v (.string s1528),.fl .ro 3 (flatten (map ae.enc s1529)),.v (.bool s1530),.fl .ro 1 (map (int .u8) s1531),.v (.string s1532),.v (.bool s1533)]),(7,.v (.int .i64 s1534)),(10,.box 30 [.v (.int .i64 v20.1.ES),.v (.string v20.1.EE),.v (.bool v20.1.EA.EM),.v (.string v20.1.EA.EI),.v (.string v20.1.EA.Ex),.fl .ro 3 (flatten (map ae.enc v20.1.To)),.v (.bool v20.1.EU),.fl .ro 1 (map (int .u8) v20.1.Eu),.v (.string v20.1.Ev),.v (.bool v20.1.ET)]),(11,.fr .ro false 12 (flatten (map au.ienc v20.2.1))),(159,.v (.bool false))]) ?_ ?_
                 ·intro s2014 h
                  refine yw [] 1 ?_
                  refine ox 7 h (fun (s2019:Bool)=>[(173,.v (.bool s2019)),(0,fi lines),(1,fb more),(205,.glob (GL mx)),(5,.fl (.own 9) 1 (map Value.string ([(⟨#[77,65,73,76,32,70,82,79,77,58,60,120,64,121,62]⟩:Fa),(⟨#[82,67,80,84,32,84,79,58,60,99,64,98,62]⟩:Fa),(⟨#[82,83,69,84]⟩:Fa),(⟨#[78,79,79,80]⟩:Fa),(⟨#[69,72,76,79,32,104]⟩:Fa),(⟨#[69,84,82,78,32,98]⟩:Fa),(⟨#[65,85,84,72,32,67,82,65,77,45,77,68,53]⟩:Fa),(⟨#[65,84,82,78]⟩:Fa),(⟨#[86,82,70,89,32,120]⟩:Fa),(⟨#[68,65,84,65]⟩:Fa),(⟨#[77,65,73,76,32,70,82,79,77,58,60,120,64,121,62,32,83,73,90,69,61,57,57,57,57,57,57]⟩:Fa)]))),(6,.box 30 [.v (.int .i64 s1524),.v (.string s1525),.v (.bool s1526),.v (.string s1527),.v (.string s1528),.fl .ro 3 (flatten (map ae.enc s1529)),.v (.bool s1530),.fl .ro 1 (map (int .u8) s1531),.v (.string s1532),.v (.bool s1533)]),(7,.v (.int .i64 s1534)),(10,.box 30 [.v (.int .i64 v20.1.ES),.v (.string v20.1.EE),.v (.bool v20.1.EA.EM),.v (.string v20.1.EA.EI),.v (.string v20.1.EA.Ex),.fl .ro 3 (flatten (map ae.enc v20.1.To)),.v (.bool v20.1.EU),.fl .ro 1 (map (int .u8) v20.1.Eu),.v (.string v20.1.Ev),.v (.bool v20.1.ET)]),(159,.v (.bool false))]) ?_ ?_
                  ·intro s2019 h
                   refine yw [] 1 ?_
                   exact gZ [174,0,1,205,5,6,7,10] (hl2011 _ (zi h).symm)
                  ·intro u2020 h hl2021 hr2022
                   refine ak h (fun hg2023 h => ?_) (fun hg2023 h => ?_)
                   ·obtain ⟨v91,hv91,h⟩:=zn h
                    obtain ⟨v92,hv92,h⟩:=zn h
                    refine yd hg2023 1 ?_
                    refine ys 2 ⟨lI hv91⟩ ?_
                    refine yS (vi v92.EV.Ew) 2 ⟨bR _ _ _ _ _ _ _ underlying3 rfl rfl rfl (bU (j:=0) au.ilen hv92 rfl) (.v _)⟩ ?_
                    exact gZ [173,0,1,205,5,6,7,10,159] (hl2021 _ (zi h).symm)
                   ·refine yd hg2023 7 ?_
                    exact gZ [173,0,1,205,5,6,7,10,159] (hl2021 _ (zi h).symm)
                 ·intro u2015 h hl2016 hr2017
                  refine ak h (fun hg2018 h => ?_) (fun hg2018 h => ?_)
                  ·refine yd hg2018 3 ?_
                   exact gZ [165,0,1,205,5,6,7,10,11,159] (hl2016 _ (zi h).symm)
                  ·refine yd hg2018 3 ?_
                   exact gZ [165,0,1,205,5,6,7,10,11,159] (hl2016 _ (zi h).symm)
              ·intro u1980 h hl1981 hr1982
               refine ak h (fun hg1983 h => ?_) (fun hg1983 h => ?_)
               ·refine yd hg1983 10 ?_
                refine yw [] 10 ?_
                refine yw [] 6 ?_
                exact gZ [158,0,1,205,5,6,7,8,9,10,11] (hl1981 _ (zi h).symm)
               ·refine yd hg1983 3 ?_
                refine ox 3 h (fun (s1984:Bool)=>[(138,.v (.bool s1984)),(0,fi lines),(1,fb more),(205,.glob (GL mx)),(5,.fl (.own 9) 1 (map Value.string ([(⟨#[77,65,73,76,32,70,82,79,77,58,60,120,64,121,62]⟩:Fa),(⟨#[82,67,80,84,32,84,79,58,60,99,64,98,62]⟩:Fa),(⟨#[82,83,69,84]⟩:Fa),(⟨#[78,79,79,80]⟩:Fa),(⟨#[69,72,76,79,32,104]⟩:Fa),(⟨#[69,84,82,78,32,98]⟩:Fa),(⟨#[65,85,84,72,32,67,82,65,77,45,77,68,53]⟩:Fa),(⟨#[65,84,82,78]⟩:Fa),(⟨#[86,82,70,89,32,120]⟩:Fa),(⟨#[68,65,84,65]⟩:Fa),(⟨#[77,65,73,76,32,70,82,79,77,58,60,120,64,121,62,32,83,73,90,69,61,57,57,57,57,57,57]⟩:Fa)]))),(6,.box 30 [.v (.int .i64 s1524),.v (.string s1525),.v (.bool s1526),.v (.string s1527),.v (.string s1528),.fl .ro 3 (flatten (map ae.enc s1529)),.v (.bool s1530),.fl .ro 1 (map (int .u8) s1531),.v (.string s1532),.v (.bool s1533)]),(7,.v (.int .i64 s1534)),(8,.v (.int .i64 v14)),(9,.v (.int .i64 s1524)),(10,.box 30 [.v (.int .i64 v20.1.ES),.v (.string v20.1.EE),.v (.bool v20.1.EA.EM),.v (.string v20.1.EA.EI),.v (.string v20.1.EA.Ex),.fl .ro 3 (flatten (map ae.enc v20.1.To)),.v (.bool v20.1.EU),.fl .ro 1 (map (int .u8) v20.1.Eu),.v (.string v20.1.Ev),.v (.bool v20.1.ET)]),(11,.fr .ro false 12 (flatten (map au.ienc v20.2.1))),(13,.v (.bool s1939)),(132,.v (.bool false))]) ?_ ?_
                ·intro s1984 h
                 refine yw [] 1 ?_
                 refine ox 10 h (fun (s1989:Bool)=>[(149,.v (.bool s1989)),(0,fi lines),(1,fb more),(205,.glob (GL mx)),(5,.fl (.own 9) 1 (map Value.string ([(⟨#[77,65,73,76,32,70,82,79,77,58,60,120,64,121,62]⟩:Fa),(⟨#[82,67,80,84,32,84,79,58,60,99,64,98,62]⟩:Fa),(⟨#[82,83,69,84]⟩:Fa),(⟨#[78,79,79,80]⟩:Fa),(⟨#[69,72,76,79,32,104]⟩:Fa),(⟨#[69,84,82,78,32,98]⟩:Fa),(⟨#[65,85,84,72,32,67,82,65,77,45,77,68,53]⟩:Fa),(⟨#[65,84,82,78]⟩:Fa),(⟨#[86,82,70,89,32,120]⟩:Fa),(⟨#[68,65,84,65]⟩:Fa),(⟨#[77,65,73,76,32,70,82,79,77,58,60,120,64,121,62,32,83,73,90,69,61,57,57,57,57,57,57]⟩:Fa)]))),(6,.box 30 [.v (.int .i64 s1524),.v (.string s1525),.v (.bool s1526),.v (.string s1527),.v (.string s1528),.fl .ro 3 (flatten (map ae.enc s1529)),.v (.bool s1530),.fl .ro 1 (map (int .u8) s1531),.v (.string s1532),.v (.bool s1533)]),(7,.v (.int .i64 s1534)),(8,.v (.int .i64 v14)),(9,.v (.int .i64 s1524)),(10,.box 30 [.v (.int .i64 v20.1.ES),.v (.string v20.1.EE),.v (.bool v20.1.EA.EM),.v (.string v20.1.EA.EI),.v (.string v20.1.EA.Ex),.fl .ro 3 (flatten (map ae.enc v20.1.To)),.v (.bool v20.1.EU),.fl .ro 1 (map (int .u8) v20.1.Eu),.v (.string v20.1.Ev),.v (.bool v20.1.ET)]),(11,.fr .ro false 12 (flatten (map au.ienc v20.2.1))),(132,.v (.bool false))]) ?_ ?_
                 ·intro s1989 h
                  refine yw [] 1 ?_
                  refine ox 7 h (fun (s2004:Bool)=>[(157,.v (.bool s2004)),(0,fi lines),(1,fb more),(205,.glob (GL mx)),(5,.fl (.own 9) 1 (map Value.string ([(⟨#[77,65,73,76,32,70,82,79,77,58,60,120,64,121,62]⟩:Fa),(⟨#[82,67,80,84,32,84,79,58,60,99,64,98,62]⟩:Fa),(⟨#[82,83,69,84]⟩:Fa),(⟨#[78,79,79,80]⟩:Fa),(⟨#[69,72,76,79,32,104]⟩:Fa),(⟨#[69,84,82,78,32,98]⟩:Fa),(⟨#[65,85,84,72,32,67,82,65,77,45,77,68,53]⟩:Fa),(⟨#[65,84,82,78]⟩:Fa),(⟨#[86,82,70,89,32,120]⟩:Fa),(⟨#[68,65,84,65]⟩:Fa),(⟨#[77,65,73,76,32,70,82,79,77,58,60,120,64,121,62,32,83,73,90,69,61,57,57,57,57,57,57]⟩:Fa)]))),(6,.box 30 [.v (.int .i64 s1524),.v (.string s1525),.v (.bool s1526),.v (.string s1527),.v (.string s1528),.fl .ro 3 (flatten (map ae.enc s1529)),.v (.bool s1530),.fl .ro 1 (map (int .u8) s1531),.v (.string s1532),.v (.bool s1533)]),(7,.v (.int .i64 s1534)),(8,.v (.int .i64 v14)),(9,.v (.int .i64 s1524)),(10,.box 30 [.v (.int .i64 v20.1.ES),.v (.string v20.1.EE),.v (.bool v20.1.EA.EM),.v (.string v20.1.EA.EI),.v (.string v20.1.EA.Ex),.fl .ro 3 (flatten (map ae.enc v20.1.To)),.v (.bool v20.1.EU),.fl .ro 1 (map (int .u8) v20.1.Eu),.v (.string v20.1.Ev),.v (.bool v20.1.ET)]),(11,.fr .ro false 12 (flatten (map au.ienc v20.2.1))),(132,.v (.bool false))]) ?_ ?_
                  ·intro s2004 h
                   refine yw [] 1 ?_
                   exact gZ [158,0,1,205,5,6,7,8,9,10,11] (hl1981 _ (zi h).symm)
                  ·intro u2005 h hl2006 hr2007
                   refine ak h (fun hg2008 h => ?_) (fun hg2008 h => ?_)
                   ·obtain ⟨v91,hv91,h⟩:=zn h
                    obtain ⟨v92,hv92,h⟩:=zn h
                    refine yd hg2008 1 ?_
                    refine ys 2 ⟨lI hv91⟩ ?_
                    refine yS (vi v92.EV.Ew) 2 ⟨bR _ _ _ _ _ _ _ underlying3 rfl rfl rfl (bU (j:=0) au.ilen hv92 rfl) (.v _)⟩ ?_
                    exact gZ [157,0,1,205,5,6,7,8,9,10,11,132] (hl2006 _ (zi h).symm)
                   ·refine yd hg2008 7 ?_
                    exact gZ [157,0,1,205,5,6,7,8,9,10,11,132] (hl2006 _ (zi h).symm)
                 ·intro u1990 h hl1991 hr1992
                  refine ak h (fun hg1993 h => ?_) (fun hg1993 h => ?_)
                  ·refine yd hg1993 2 ?_
                   refine ox 7 h (fun (s1994:Bool)=>[(148,.v (.bool s1994)),(0,fi lines),(1,fb more),(205,.glob (GL mx)),(5,.fl (.own 9) 1 (map Value.string ([(⟨#[77,65,73,76,32,70,82,79,77,58,60,120,64,121,62]⟩:Fa),(⟨#[82,67,80,84,32,84,79,58,60,99,64,98,62]⟩:Fa),(⟨#[82,83,69,84]⟩:Fa),(⟨#[78,79,79,80]⟩:Fa),(⟨#[69,72,76,79,32,104]⟩:Fa),(⟨#[69,84,82,78,32,98]⟩:Fa),(⟨#[65,85,84,72,32,67,82,65,77,45,77,68,53]⟩:Fa),(⟨#[65,84,82,78]⟩:Fa),(⟨#[86,82,70,89,32,120]⟩:Fa),(⟨#[68,65,84,65]⟩:Fa),(⟨#[77,65,73,76,32,70,82,79,77,58,60,120,64,121,62,32,83,73,90,69,61,57,57,57,57,57,57]⟩:Fa)]))),(6,.box 30 [.v (.int .i64 s1524),.v (.string s1525),.v (.bool s1526),.v (.string s1527),.v (.string s1528),.fl .ro 3 (flatten (map ae.enc s1529)),.v (.bool s1530),.fl .ro 1 (map (int .u8) s1531),.v (.string s1532),.v (.bool s1533)]),(7,.v (.int .i64 s1534)),(8,.v (.int .i64 v14)),(9,.v (.int .i64 s1524)),(10,.box 30 [.v (.int .i64 v20.1.ES),.v (.string v20.1.EE),.v (.bool v20.1.EA.EM),.v (.string v20.1.EA.EI),.v (.string v20.1.EA.Ex),.fl .ro 3 (flatten (map ae.enc v20.1.To)),.v (.bool v20.1.EU),.fl .ro 1 (map (int .u8) v20.1.Eu),.v (.string v20.1.Ev),.v (.bool v20.1.ET)]),(11,.fr .ro false 12 (flatten (map au.ienc v20.2.1))),(132,.v (.bool false)),(139,.v (.bool true))]) ?_ ?_
                   ·intro s1994 h
                    refine yw [] 1 ?_
                    exact gZ [149,0,1,205,5,6,7,8,9,10,11,132] (hl1991 _ (zi h).symm)
                   ·intro u1995 h hl1996 hr1997
                    refine ak h (fun hg1998 h => ?_) (fun hg1998 h => ?_)
                    ·refine yd hg1998 7 ?_
                     exact gZ [148,0,1,205,5,6,7,8,9,10,11,132,139] (hl1996 _ (zi h).symm)
                    ·refine yd hg1998 3 ?_
                     refine ox 3 h (fun (s1999:Bool)=>[(147,.v (.bool s1999)),(0,fi lines),(1,fb more),(205,.glob (GL mx)),(5,.fl (.own 9) 1 (map Value.string ([(⟨#[77,65,73,76,32,70,82,79,77,58,60,120,64,121,62]⟩:Fa),(⟨#[82,67,80,84,32,84,79,58,60,99,64,98,62]⟩:Fa),(⟨#[82,83,69,84]⟩:Fa),(⟨#[78,79,79,80]⟩:Fa),(⟨#[69,72,76,79,32,104]⟩:Fa),(⟨#[69,84,82,78,32,98]⟩:Fa),(⟨#[65,85,84,72,32,67,82,65,77,45,77,68,53]⟩:Fa),(⟨#[65,84,82,78]⟩:Fa),(⟨#[86,82,70,89,32,120]⟩:Fa),(⟨#[68,65,84,65]⟩:Fa),(⟨#[77,65,73,76,32,70,82,79,77,58,60,120,64,121,62,32,83,73,90,69,61,57,57,57,57,57,57]⟩:Fa)]))),(6,.box 30 [.v (.int .i64 s1524),.v (.string s1525),.v (.bool s1526),.v (.string s1527),.v (.string s1528),.fl .ro 3 (flatten (map ae.enc s1529)),.v (.bool s1530),.fl .ro 1 (map (int .u8) s1531),.v (.string s1532),.v (.bool s1533)]),(7,.v (.int .i64 s1534)),(8,.v (.int .i64 v14)),(9,.v (.int .i64 s1524)),(10,.box 30 [.v (.int .i64 v20.1.ES),.v (.string v20.1.EE),.v (.bool v20.1.EA.EM),.v (.string v20.1.EA.EI),.v (.string v20.1.EA.Ex),.fl .ro 3 (flatten (map ae.enc v20.1.To)),.v (.bool v20.1.EU),.fl .ro 1 (map (int .u8) v20.1.Eu),.v (.string v20.1.Ev),.v (.bool v20.1.ET)]),(11,.fr .ro false 12 (flatten (map au.ienc v20.2.1))),(132,.v (.bool false)),(139,.v (.bool true)),(141,.v (.bool false))]) ?_ ?_
                     ·intro s1999 h
                      refine yw [] 1 ?_
                      exact gZ [148,0,1,205,5,6,7,8,9,10,11,132,139] (hl1996 _ (zi h).symm)
                     ·intro u2000 h hl2001 hr2002
                      refine ak h (fun hg2003 h => ?_) (fun hg2003 h => ?_)
                      ·refine yd hg2003 3 ?_
                       exact gZ [147,0,1,205,5,6,7,8,9,10,11,132,139,141] (hl2001 _ (zi h).symm)
                      ·refine yd hg2003 3 ?_
                       exact gZ [147,0,1,205,5,6,7,8,9,10,11,132,139,141] (hl2001 _ (zi h).symm)
                  ·refine yd hg1993 10 ?_
                   refine yw [] 0 ?_
                   exact gZ [149,0,1,205,5,6,7,8,9,10,11,132] (hl1991 _ (zi h).symm)
                ·intro u1985 h hl1986 hr1987
                 refine ak h (fun hg1988 h => ?_) (fun hg1988 h => ?_)
                 ·refine yd hg1988 3 ?_
                  exact gZ [138,0,1,205,5,6,7,8,9,10,11,13,132] (hl1986 _ (zi h).symm)
                 ·refine yd hg1988 3 ?_
                  exact gZ [138,0,1,205,5,6,7,8,9,10,11,13,132] (hl1986 _ (zi h).symm)
             ·intro u1975 h hl1976 hr1977
              refine ak h (fun hg1978 h => ?_) (fun hg1978 h => ?_)
              ·obtain ⟨v91,hv91,h⟩:=zn h
               obtain ⟨v92,hv92,h⟩:=zn h
               refine yd hg1978 1 ?_
               refine ys 2 ⟨lI hv91⟩ ?_
               refine yS (vi v92.EV.Ew) 2 ⟨bR _ _ _ _ _ _ _ underlying3 rfl rfl rfl (bU (j:=0) au.ilen hv92 rfl) (.v _)⟩ ?_
               exact gZ [131,0,1,205,5,6,7,8,9,10,11,13] (hl1976 _ (zi h).symm)
              ·refine yd hg1978 7 ?_
               exact gZ [131,0,1,205,5,6,7,8,9,10,11,13] (hl1976 _ (zi h).symm)
            ·intro u1945 h hl1946 hr1947
             refine ak h (fun hg1948 h => ?_) (fun hg1948 h => ?_)
             ·refine yd hg1948 2 ?_
              refine ox 3 h (fun (s1949:Bool)=>[(106,.v (.bool s1949)),(0,fi lines),(1,fb more),(205,.glob (GL mx)),(5,.fl (.own 9) 1 (map Value.string ([(⟨#[77,65,73,76,32,70,82,79,77,58,60,120,64,121,62]⟩:Fa),(⟨#[82,67,80,84,32,84,79,58,60,99,64,98,62]⟩:Fa),(⟨#[82,83,69,84]⟩:Fa),(⟨#[78,79,79,80]⟩:Fa),(⟨#[69,72,76,79,32,104]⟩:Fa),(⟨#[69,84,82,78,32,98]⟩:Fa),(⟨#[65,85,84,72,32,67,82,65,77,45,77,68,53]⟩:Fa),(⟨#[65,84,82,78]⟩:Fa),(⟨#[86,82,70,89,32,120]⟩:Fa),(⟨#[68,65,84,65]⟩:Fa),(⟨#[77,65,73,76,32,70,82,79,77,58,60,120,64,121,62,32,83,73,90,69,61,57,57,57,57,57,57]⟩:Fa)]))),(6,.box 30 [.v (.int .i64 s1524),.v (.string s1525),.v (.bool s1526),.v (.string s1527),.v (.string s1528),.fl .ro 3 (flatten (map ae.enc s1529)),.v (.bool s1530),.fl .ro 1 (map (int .u8) s1531),.v (.string s1532),.v (.bool s1533)]),(7,.v (.int .i64 s1534)),(8,.v (.int .i64 v14)),(9,.v (.int .i64 s1524)),(10,.box 30 [.v (.int .i64 v20.1.ES),.v (.string v20.1.EE),.v (.bool v20.1.EA.EM),.v (.string v20.1.EA.EI),.v (.string v20.1.EA.Ex),.fl .ro 3 (flatten (map ae.enc v20.1.To)),.v (.bool v20.1.EU),.fl .ro 1 (map (int .u8) v20.1.Eu),.v (.string v20.1.Ev),.v (.bool v20.1.ET)]),(11,.fr .ro false 12 (flatten (map au.ienc v20.2.1))),(13,.v (.bool s1939)),(101,.v (.bool true))]) ?_ ?_
              ·intro s1949 h
               refine yw [] 1 ?_
               refine ox 3 h (fun (s1954:Bool)=>[(110,.v (.bool s1954)),(0,fi lines),(1,fb more),(205,.glob (GL mx)),(5,.fl (.own 9) 1 (map Value.string ([(⟨#[77,65,73,76,32,70,82,79,77,58,60,120,64,121,62]⟩:Fa),(⟨#[82,67,80,84,32,84,79,58,60,99,64,98,62]⟩:Fa),(⟨#[82,83,69,84]⟩:Fa),(⟨#[78,79,79,80]⟩:Fa),(⟨#[69,72,76,79,32,104]⟩:Fa),(⟨#[69,84,82,78,32,98]⟩:Fa),(⟨#[65,85,84,72,32,67,82,65,77,45,77,68,53]⟩:Fa),(⟨#[65,84,82,78]⟩:Fa),(⟨#[86,82,70,89,32,120]⟩:Fa),(⟨#[68,65,84,65]⟩:Fa),(⟨#[77,65,73,76,32,70,82,79,77,58,60,120,64,121,62,32,83,73,90,69,61,57,57,57,57,57,57]⟩:Fa)]))),(6,.box 30 [.v (.int .i64 s1524),.v (.string s1525),.v (.bool s1526),.v (.string s1527),.v (.string s1528),.fl .ro 3 (flatten (map ae.enc s1529)),.v (.bool s1530),.fl .ro 1 (map (int .u8) s1531),.v (.string s1532),.v (.bool s1533)]),(7,.v (.int .i64 s1534)),(8,.v (.int .i64 v14)),(9,.v (.int .i64 s1524)),(10,.box 30 [.v (.int .i64 v20.1.ES),.v (.string v20.1.EE),.v (.bool v20.1.EA.EM),.v (.string v20.1.EA.EI),.v (.string v20.1.EA.Ex),.fl .ro 3 (flatten (map ae.enc v20.1.To)),.v (.bool v20.1.EU),.fl .ro 1 (map (int .u8) v20.1.Eu),.v (.string v20.1.Ev),.v (.bool v20.1.ET)]),(11,.fr .ro false 12 (flatten (map au.ienc v20.2.1))),(13,.v (.bool s1939)),(101,.v (.bool true))]) ?_ ?_
               ·intro s1954 h
                refine yw [] 1 ?_
                refine ox 3 h (fun (s1959:Bool)=>[(114,.v (.bool s1959)),(0,fi lines),(1,fb more),(205,.glob (GL mx)),(5,.fl (.own 9) 1 (map Value.string ([(⟨#[77,65,73,76,32,70,82,79,77,58,60,120,64,121,62]⟩:Fa),(⟨#[82,67,80,84,32,84,79,58,60,99,64,98,62]⟩:Fa),(⟨#[82,83,69,84]⟩:Fa),(⟨#[78,79,79,80]⟩:Fa),(⟨#[69,72,76,79,32,104]⟩:Fa),(⟨#[69,84,82,78,32,98]⟩:Fa),(⟨#[65,85,84,72,32,67,82,65,77,45,77,68,53]⟩:Fa),(⟨#[65,84,82,78]⟩:Fa),(⟨#[86,82,70,89,32,120]⟩:Fa),(⟨#[68,65,84,65]⟩:Fa),(⟨#[77,65,73,76,32,70,82,79,77,58,60,120,64,121,62,32,83,73,90,69,61,57,57,57,57,57,57]⟩:Fa)]))),(6,.box 30 [.v (.int .i64 s1524),.v (.string s1525),.v (.bool s1526),.v (.string s1527),.v (.string s1528),.fl .ro 3 (flatten (map ae.enc s1529)),.v (.bool s1530),.fl .ro 1 (map (int .u8) s1531),.v (.string s1532),.v (.bool s1533)]),(7,.v (.int .i64 s1534)),(8,.v (.int .i64 v14)),(9,.v (.int .i64 s1524)),(10,.box 30 [.v (.int .i64 v20.1.ES),.v (.string v20.1.EE),.v (.bool v20.1.EA.EM),.v (.string v20.1.EA.EI),.v (.string v20.1.EA.Ex),.fl .ro 3 (flatten (map ae.enc v20.1.To)),.v (.bool v20.1.EU),.fl .ro 1 (map (int .u8) v20.1.Eu),.v (.string v20.1.Ev),.v (.bool v20.1.ET)]),(11,.fr .ro false 12 (flatten (map au.ienc v20.2.1))),(13,.v (.bool s1939)),(101,.v (.bool true))]) ?_ ?_
                ·intro s1959 h
                 refine yw [] 1 ?_
                 refine ox 3 h (fun (s1964:Bool)=>[(118,.v (.bool s1964)),(0,fi lines),(1,fb more),(205,.glob (GL mx)),(5,.fl (.own 9) 1 (map Value.string ([(⟨#[77,65,73,76,32,70,82,79,77,58,60,120,64,121,62]⟩:Fa),(⟨#[82,67,80,84,32,84,79,58,60,99,64,98,62]⟩:Fa),(⟨#[82,83,69,84]⟩:Fa),(⟨#[78,79,79,80]⟩:Fa),(⟨#[69,72,76,79,32,104]⟩:Fa),(⟨#[69,84,82,78,32,98]⟩:Fa),(⟨#[65,85,84,72,32,67,82,65,77,45,77,68,53]⟩:Fa),(⟨#[65,84,82,78]⟩:Fa),(⟨#[86,82,70,89,32,120]⟩:Fa),(⟨#[68,65,84,65]⟩:Fa),(⟨#[77,65,73,76,32,70,82,79,77,58,60,120,64,121,62,32,83,73,90,69,61,57,57,57,57,57,57]⟩:Fa)]))),(6,.box 30 [.v (.int .i64 s1524),.v (.string s1525),.v (.bool s1526),.v (.string s1527),.v (.string s1528),.fl .ro 3 (flatten (map ae.enc s1529)),.v (.bool s1530),.fl .ro 1 (map (int .u8) s1531),.v (.string s1532),.v (.bool s1533)]),(7,.v (.int .i64 s1534)),(8,.v (.int .i64 v14)),(9,.v (.int .i64 s1524)),(10,.box 30 [.v (.int .i64 v20.1.ES),.v (.string v20.1.EE),.v (.bool v20.1.EA.EM),.v (.string v20.1.EA.EI),.v (.string v20.1.EA.Ex),.fl .ro 3 (flatten (map ae.enc v20.1.To)),.v (.bool v20.1.EU),.fl .ro 1 (map (int .u8) v20.1.Eu),.v (.string v20.1.Ev),.v (.bool v20.1.ET)]),(11,.fr .ro false 12 (flatten (map au.ienc v20.2.1))),(13,.v (.bool s1939)),(101,.v (.bool true))]) ?_ ?_
                 ·intro s1964 h
                  refine yw [] 1 ?_
                  refine ox 3 h (fun (s1969:Bool)=>[(122,.v (.bool s1969)),(0,fi lines),(1,fb more),(205,.glob (GL mx)),(5,.fl (.own 9) 1 (map Value.string ([(⟨#[77,65,73,76,32,70,82,79,77,58,60,120,64,121,62]⟩:Fa),(⟨#[82,67,80,84,32,84,79,58,60,99,64,98,62]⟩:Fa),(⟨#[82,83,69,84]⟩:Fa),(⟨#[78,79,79,80]⟩:Fa),(⟨#[69,72,76,79,32,104]⟩:Fa),(⟨#[69,84,82,78,32,98]⟩:Fa),(⟨#[65,85,84,72,32,67,82,65,77,45,77,68,53]⟩:Fa),(⟨#[65,84,82,78]⟩:Fa),(⟨#[86,82,70,89,32,120]⟩:Fa),(⟨#[68,65,84,65]⟩:Fa),(⟨#[77,65,73,76,32,70,82,79,77,58,60,120,64,121,62,32,83,73,90,69,61,57,57,57,57,57,57]⟩:Fa)]))),(6,.box 30 [.v (.int .i64 s1524),.v (.string s1525),.v (.bool s1526),.v (.string s1527),.v (.string s1528),.fl .ro 3 (flatten (map ae.enc s1529)),.v (.bool s1530),.fl .ro 1 (map (int .u8) s1531),.v (.string s1532),.v (.bool s1533)]),(7,.v (.int .i64 s1534)),(8,.v (.int .i64 v14)),(9,.v (.int .i64 s1524)),(10,.box 30 [.v (.int .i64 v20.1.ES),.v (.string v20.1.EE),.v (.bool v20.1.EA.EM),.v (.string v20.1.EA.EI),.v (.string v20.1.EA.Ex),.fl .ro 3 (flatten (map ae.enc v20.1.To)),.v (.bool v20.1.EU),.fl .ro 1 (map (int .u8) v20.1.Eu),.v (.string v20.1.Ev),.v (.bool v20.1.ET)]),(11,.fr .ro false 12 (flatten (map au.ienc v20.2.1))),(13,.v (.bool s1939)),(101,.v (.bool true))]) ?_ ?_
                  ·intro s1969 h
                   refine yw [] 1 ?_
                   exact gZ [123,0,1,205,5,6,7,8,9,10,11,13] (hl1946 _ (zi h).symm)
                  ·intro u1970 h hl1971 hr1972
                   refine ak h (fun hg1973 h => ?_) (fun hg1973 h => ?_)
                   ·refine yd hg1973 3 ?_
                    exact gZ [122,0,1,205,5,6,7,8,9,10,11,13,101] (hl1971 _ (zi h).symm)
                   ·refine yd hg1973 3 ?_
                    exact gZ [122,0,1,205,5,6,7,8,9,10,11,13,101] (hl1971 _ (zi h).symm)
                 ·intro u1965 h hl1966 hr1967
                  refine ak h (fun hg1968 h => ?_) (fun hg1968 h => ?_)
                  ·refine yd hg1968 3 ?_
                   exact gZ [118,0,1,205,5,6,7,8,9,10,11,13,101] (hl1966 _ (zi h).symm)
                  ·refine yd hg1968 3 ?_
                   exact gZ [118,0,1,205,5,6,7,8,9,10,11,13,101] (hl1966 _ (zi h).symm)
                ·intro u1960 h hl1961 hr1962
                 refine ak h (fun hg1963 h => ?_) (fun hg1963 h => ?_)
                 ·refine yd hg1963 3 ?_
                  exact gZ [114,0,1,205,5,6,7,8,9,10,11,13,101] (hl1961 _ (zi h).symm)
                 ·refine yd hg1963 3 ?_
                  exact gZ [114,0,1,205,5,6,7,8,9,10,11,13,101] (hl1961 _ (zi h).symm)
               ·intro u1955 h hl1956 hr1957
                refine ak h (fun hg1958 h => ?_) (fun hg1958 h => ?_)
                ·refine yd hg1958 3 ?_
                 exact gZ [110,0,1,205,5,6,7,8,9,10,11,13,101] (hl1956 _ (zi h).symm)
                ·refine yd hg1958 3 ?_
                 exact gZ [110,0,1,205,5,6,7,8,9,10,11,13,101] (hl1956 _ (zi h).symm)
              ·intro u1950 h hl1951 hr1952
               refine ak h (fun hg1953 h => ?_) (fun hg1953 h => ?_)
               ·refine yd hg1953 3 ?_
                exact gZ [106,0,1,205,5,6,7,8,9,10,11,13,101] (hl1951 _ (zi h).symm)
               ·refine yd hg1953 3 ?_
                exact gZ [106,0,1,205,5,6,7,8,9,10,11,13,101] (hl1951 _ (zi h).symm)
             ·refine yd hg1948 10 ?_
              refine yw [] 10 ?_
              refine yw [] 2 ?_
              exact gZ [123,0,1,205,5,6,7,8,9,10,11,13] (hl1946 _ (zi h).symm)
           ·intro u1940 h hl1941 hr1942
            refine ak h (fun hg1943 h => ?_) (fun hg1943 h => ?_)
            ·refine yd hg1943 3 ?_
             exact gZ [98,0,1,205,5,6,7,8,9,10,11] (hl1941 _ (zi h).symm)
            ·refine yd hg1943 3 ?_
             exact gZ [98,0,1,205,5,6,7,8,9,10,11] (hl1941 _ (zi h).symm)
         ·intro u1934 h hl1935 hr1936
          refine ak h (fun hg1937 h => ?_) (fun hg1937 h => ?_)
          ·obtain ⟨v43,hv43,h⟩:=zn h
           refine yd hg1937 2 ?_
           refine ys 2 ⟨lk call15 (mv _ _ _ hv43)⟩ ?_
           exact gZ [92,0,1,205,5,6,7,8,9,10,11] (hl1935 _ (zi h).symm)
          ·refine yd hg1937 5 ?_
           exact gZ [92,0,1,205,5,6,7,8,9,10,11] (hl1935 _ (zi h).symm)
      ·intro u1912 h hl1913 hr1914
       refine ak h (fun hg1915 h => ?_) (fun hg1915 h => ?_)
       ·refine yd hg1915 10 ?_
        refine yw [] 6 ?_
        exact gZ [76,0,1,205,5,6,7,8,9,10,11] (hl1913 _ (zi h).symm)
       ·refine yd hg1915 3 ?_
        refine ox 3 h (fun (s1916:Bool)=>[(66,.v (.bool s1916)),(0,fi lines),(1,fb more),(205,.glob (GL mx)),(5,.fl (.own 9) 1 (map Value.string ([(⟨#[77,65,73,76,32,70,82,79,77,58,60,120,64,121,62]⟩:Fa),(⟨#[82,67,80,84,32,84,79,58,60,99,64,98,62]⟩:Fa),(⟨#[82,83,69,84]⟩:Fa),(⟨#[78,79,79,80]⟩:Fa),(⟨#[69,72,76,79,32,104]⟩:Fa),(⟨#[69,84,82,78,32,98]⟩:Fa),(⟨#[65,85,84,72,32,67,82,65,77,45,77,68,53]⟩:Fa),(⟨#[65,84,82,78]⟩:Fa),(⟨#[86,82,70,89,32,120]⟩:Fa),(⟨#[68,65,84,65]⟩:Fa),(⟨#[77,65,73,76,32,70,82,79,77,58,60,120,64,121,62,32,83,73,90,69,61,57,57,57,57,57,57]⟩:Fa)]))),(6,.box 30 [.v (.int .i64 s1524),.v (.string s1525),.v (.bool s1526),.v (.string s1527),.v (.string s1528),.fl .ro 3 (flatten (map ae.enc s1529)),.v (.bool s1530),.fl .ro 1 (map (int .u8) s1531),.v (.string s1532),.v (.bool s1533)]),(7,.v (.int .i64 s1534)),(8,.v (.int .i64 v14)),(9,.v (.int .i64 s1524)),(10,.box 30 [.v (.int .i64 v20.1.ES),.v (.string v20.1.EE),.v (.bool v20.1.EA.EM),.v (.string v20.1.EA.EI),.v (.string v20.1.EA.Ex),.fl .ro 3 (flatten (map ae.enc v20.1.To)),.v (.bool v20.1.EU),.fl .ro 1 (map (int .u8) v20.1.Eu),.v (.string v20.1.Ev),.v (.bool v20.1.ET)]),(11,.fr .ro false 12 (flatten (map au.ienc v20.2.1))),(60,.v (.bool false))]) ?_ ?_
        ·intro s1916 h
         refine yw [] 1 ?_
         refine ox 3 h (fun (s1921:Bool)=>[(70,.v (.bool s1921)),(0,fi lines),(1,fb more),(205,.glob (GL mx)),(5,.fl (.own 9) 1 (map Value.string ([(⟨#[77,65,73,76,32,70,82,79,77,58,60,120,64,121,62]⟩:Fa),(⟨#[82,67,80,84,32,84,79,58,60,99,64,98,62]⟩:Fa),(⟨#[82,83,69,84]⟩:Fa),(⟨#[78,79,79,80]⟩:Fa),(⟨#[69,72,76,79,32,104]⟩:Fa),(⟨#[69,84,82,78,32,98]⟩:Fa),(⟨#[65,85,84,72,32,67,82,65,77,45,77,68,53]⟩:Fa),(⟨#[65,84,82,78]⟩:Fa),(⟨#[86,82,70,89,32,120]⟩:Fa),(⟨#[68,65,84,65]⟩:Fa),(⟨#[77,65,73,76,32,70,82,79,77,58,60,120,64,121,62,32,83,73,90,69,61,57,57,57,57,57,57]⟩:Fa)]))),(6,.box 30 [.v (.int .i64 s1524),.v (.string s1525),.v (.bool s1526),.v (.string s1527),.v (.string s1528),.fl .ro 3 (flatten (map ae.enc s1529)),.v (.bool s1530),.fl .ro 1 (map (int .u8) s1531),.v (.string s1532),.v (.bool s1533)]),(7,.v (.int .i64 s1534)),(8,.v (.int .i64 v14)),(9,.v (.int .i64 s1524)),(10,.box 30 [.v (.int .i64 v20.1.ES),.v (.string v20.1.EE),.v (.bool v20.1.EA.EM),.v (.string v20.1.EA.EI),.v (.string v20.1.EA.Ex),.fl .ro 3 (flatten (map ae.enc v20.1.To)),.v (.bool v20.1.EU),.fl .ro 1 (map (int .u8) v20.1.Eu),.v (.string v20.1.Ev),.v (.bool v20.1.ET)]),(11,.fr .ro false 12 (flatten (map au.ienc v20.2.1))),(60,.v (.bool false))]) ?_ ?_
         ·intro s1921 h
          refine yw [] 1 ?_
          refine ox 4 h (fun (s1926:Bool)=>[(75,.v (.bool s1926)),(0,fi lines),(1,fb more),(205,.glob (GL mx)),(5,.fl (.own 9) 1 (map Value.string ([(⟨#[77,65,73,76,32,70,82,79,77,58,60,120,64,121,62]⟩:Fa),(⟨#[82,67,80,84,32,84,79,58,60,99,64,98,62]⟩:Fa),(⟨#[82,83,69,84]⟩:Fa),(⟨#[78,79,79,80]⟩:Fa),(⟨#[69,72,76,79,32,104]⟩:Fa),(⟨#[69,84,82,78,32,98]⟩:Fa),(⟨#[65,85,84,72,32,67,82,65,77,45,77,68,53]⟩:Fa),(⟨#[65,84,82,78]⟩:Fa),(⟨#[86,82,70,89,32,120]⟩:Fa),(⟨#[68,65,84,65]⟩:Fa),(⟨#[77,65,73,76,32,70,82,79,77,58,60,120,64,121,62,32,83,73,90,69,61,57,57,57,57,57,57]⟩:Fa)]))),(6,.box 30 [.v (.int .i64 s1524),.v (.string s1525),.v (.bool s1526),.v (.string s1527),.v (.string s1528),.fl .ro 3 (flatten (map ae.enc s1529)),.v (.bool s1530),.fl .ro 1 (map (int .u8) s1531),.v (.string s1532),.v (.bool s1533)]),(7,.v (.int .i64 s1534)),(8,.v (.int .i64 v14)),(9,.v (.int .i64 s1524)),(10,.box 30 [.v (.int .i64 v20.1.ES),.v (.string v20.1.EE),.v (.bool v20.1.EA.EM),.v (.string v20.1.EA.EI),.v (.string v20.1.EA.Ex),.fl .ro 3 (flatten (map ae.enc v20.1.To)),.v (.bool v20.1.EU),.fl .ro 1 (map (int .u8) v20.1.Eu),.v (.string v20.1.Ev),.v (.bool v20.1.ET)]),(11,.fr .ro false 12 (flatten (map au.ienc v20.2.1))),(60,.v (.bool false))]) ?_ ?_
          ·intro s1926 h
           refine yw [] 1 ?_
           exact gZ [76,0,1,205,5,6,7,8,9,10,11] (hl1913 _ (zi h).symm)
          ·intro u1927 h hl1928 hr1929
           refine ak h (fun hg1930 h => ?_) (fun hg1930 h => ?_)
           ·refine yd hg1930 4 ?_
            exact gZ [75,0,1,205,5,6,7,8,9,10,11,60] (hl1928 _ (zi h).symm)
           ·refine yd hg1930 4 ?_
            exact gZ [75,0,1,205,5,6,7,8,9,10,11,60] (hl1928 _ (zi h).symm)
         ·intro u1922 h hl1923 hr1924
          refine ak h (fun hg1925 h => ?_) (fun hg1925 h => ?_)
          ·refine yd hg1925 3 ?_
           exact gZ [70,0,1,205,5,6,7,8,9,10,11,60] (hl1923 _ (zi h).symm)
          ·refine yd hg1925 3 ?_
           exact gZ [70,0,1,205,5,6,7,8,9,10,11,60] (hl1923 _ (zi h).symm)
        ·intro u1917 h hl1918 hr1919
         refine ak h (fun hg1920 h => ?_) (fun hg1920 h => ?_)
         ·refine yd hg1920 3 ?_
          exact gZ [66,0,1,205,5,6,7,8,9,10,11,60] (hl1918 _ (zi h).symm)
         ·refine yd hg1920 3 ?_
          exact gZ [66,0,1,205,5,6,7,8,9,10,11,60] (hl1918 _ (zi h).symm)
    ·have h:=aq hb1783 h
     refine bh (aB (aB (bf ?_)))
     refine ah [1,2] (by kernel_rfl) (es':=[(_,_),(_,_)]) rfl ?_
     exact hl1778 _ (ho1780 _ (zi h).symm).symm
 ·intro u1024 h hl1025 hr1026
  refine ak h (fun hg1027 h => ?_) (fun hg1027 h => ?_)
  ·refine yd hg1027 4 ?_
   exact gZ [24,0,1,205] (hl1025 _ (zi h).symm)
  ·refine yd hg1027 4 ?_
   exact gZ [24,0,1,205] (hl1025 _ (zi h).symm)

end Go.Proofs.YtjnnkhmhjcjhdaaGreatDoor
