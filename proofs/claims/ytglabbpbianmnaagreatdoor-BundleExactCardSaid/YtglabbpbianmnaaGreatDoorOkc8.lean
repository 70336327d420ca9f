import Derived.Test.YtglabbpbianmnaaGreatDoorOkc7
set_option linter.unusedVariables false
set_option linter.unusedSimpArgs false
set_option maxHeartbeats 1000000
namespace Go.Proofs.YtglabbpbianmnaaGreatDoor
open Go.Abs Go.Abs.Sh Tryz
open List (map flatten)
open Value (int)
theorem mQ (mx:Int) (r:Bool) (h:Sh.cB  = some r):kF Tryz.prog (GL mx) 25 [] (.v (.bool r)):=by
 unfold Sh.cB at h
 refine yG 60 func25 fun g0 hn hio => ?_
 refine bi hn 1 [60] ?_
 refine gv hn 0 ?_
 refine yS (.agg [vb true,vs z0,vs z0]) 0 ⟨bT _ _ _ _ [1,1,1] _ _ underlying43 jr (qW _ underlying43) (.copy _ kR.nil) rfl rfl rfl⟩ ?_
 refine yS (.agg [vb false,vs (⟨#[97]⟩:Li),vs (⟨#[98]⟩:Li)]) 0 ⟨bT _ _ _ _ [1,1,1] _ _ underlying43 jr (qW _ underlying43) (.copy _ (.copy _ kR.nil)) rfl rfl rfl⟩ ?_
 refine yS (.fl (.own 43) 3 (flatten (map aj.enc ([(aj.mk false (⟨#[97]⟩:Li) (⟨#[98]⟩:Li))])))) 0 ⟨ce _ _ 3 (.agg #[.bool false,.string ByteArray.empty,.string ByteArray.empty]) (flatten (map aj.enc ([(aj.mk false (⟨#[97]⟩:Li) (⟨#[98]⟩:Li))]))) [(0,.agg #[.bool false,.string (⟨#[97]⟩:Li),.string (⟨#[98]⟩:Li)])] underlying44 iJ jr (fun _ V w o a hv hes=>by have e0:=Bu (ys:=[.bool false,.string (⟨#[97]⟩:Li),.string (⟨#[98]⟩:Li)]) hv hes (x := .tmp 9) rfl; simp only [List.map_toArray,List.map_cons,List.map_nil,e0]; try rfl) (fy (by simp [Instr.fill,Value.cells]; rfl) (by simp [List.range,List.range.loop,aj.enc] <;> rfl)) (by simp [Value.oneCell',aj.enc]) rfl (by decide) (by decide) (by decide)⟩ ?_
 refine yk [10] [8] ?_
 refine yt (11,.agg [vb true,vs z0,vs z0,.fl (.own 43) 3 (flatten (map aj.enc ([(aj.mk false (⟨#[97]⟩:Li) (⟨#[98]⟩:Li))]))),vz,vb false,vs z0,vi 0]) 0 ⟨bT _ _ _ _ [3,1,1,1,1,1] _ _ underlying46 kh (Cl _ underlying46) (.copy _ (.take _ _ kR.nil)) rfl rfl rfl⟩ ?_
 refine yk [11] [] ?_
 refine yt (12,.fr (.own 46) false 8 (flatten (map ae.ienc ([(ae.mk ((aj.mk true z0 z0)) ([(aj.mk false (⟨#[97]⟩:Li) (⟨#[98]⟩:Li))]) [] false z0 0)])))) 0 ⟨gf _ _ _ 8 (.agg #[.bool false,.string ByteArray.empty,.string ByteArray.empty,.slice none 0 0,.slice none 0 0,.bool false,.string ByteArray.empty,.int .i64 0]) false _ _ underlying22 eD kh rfl (.cons (.v _) (.cons (.v _) (.cons (.v _) (.cons (.ro _ _ rfl) (.cons (.nil 1) (.cons (.v _) (.cons (.v _) (.cons (.v _) (.nil))))))))) rfl (by decide) (by decide)⟩ ?_
 refine yk [12] [] ?_
 refine yt (13,.agg [vi 0,vi 1,.fr (.own 46) false 8 (flatten (map ae.ienc ([(ae.mk ((aj.mk true z0 z0)) ([(aj.mk false (⟨#[97]⟩:Li) (⟨#[98]⟩:Li))]) [] false z0 0)])))]) 0 ⟨bT _ _ _ _ [1,1,1] _ _ underlying24 jH (oJ _ underlying24) (.copy _ (.take _ _ kR.nil)) rfl rfl rfl⟩ ?_
 refine yS (.box 24 [vi 0,vi 0,vz]) 0 ⟨oA (bz _ _ jH)⟩ ?_
 refine yk [13,1] [] ?_
 refine yt (1,.box 24 [vi 0,vi 1,.fr (.own 46) false 8 (flatten (map ae.ienc ([(ae.mk ((aj.mk true z0 z0)) ([(aj.mk false (⟨#[97]⟩:Li) (⟨#[98]⟩:Li))]) [] false z0 0)])))]) 0 ⟨aU _ _ _ _ _ _ _ _ ec rfl rfl rfl (zl rfl) rfl rfl⟩ ?_
 refine bK [60,1] ?_
 refine ag ?_
 obtain ⟨v1,hv1,h⟩:=zn h
 refine yx hn 1 ?_
 refine ys 0 ⟨lg call13 (gP _ _ _ hv1) 60⟩ ?_
 refine ym 0 ?_
 refine yV 1 ?_
 refine ya 1 ?_
 refine bK [60,1,2,3] ?_
 refine ag ?_
 refine vy 2 hio (es':=[(60,.glob (GL mx)),(1,.box 24 [.v (.int .i64 0),.v (.int .i64 1),.fr (.own 46) false 8 (flatten (map ae.ienc ([(ae.mk ((aj.mk true (⟨#[]⟩:Li) (⟨#[]⟩:Li))) ([(aj.mk false (⟨#[97]⟩:Li) (⟨#[98]⟩:Li))]) [] false (⟨#[]⟩:Li) 0)])))]),(2,.fl .ro 1 (map (int .u8) v1.1)),(3,.v (.int .i64 v1.2))]) rfl ?_
 obtain ⟨v2,hv2,h⟩:=zn h
 refine yx hn 1 ?_
 refine yS (.tup [.agg [vi v2.1.Lg,vi v2.1.Lf,.fr (.own 46) false 8 (flatten (map ae.ienc v2.1.Ld))],vi v2.2]) 0 ⟨ib _ _ 60 15 _ _ rfl call15 rfl rfl (fun _ h=>h) (kI mx v1.1 _ hv2) rfl rfl⟩ ?_
 refine ym 0 ?_
 refine yV 1 ?_
 refine yS (.box 24 [vi 0,vi 0,vz]) 0 ⟨oA (bz _ _ jH)⟩ ?_
 refine yk [22,4] [] ?_
 refine yt (4,.box 24 [vi v2.1.Lg,vi v2.1.Lf,.fr (.own 46) false 8 (flatten (map ae.ienc v2.1.Ld))]) 1 ⟨aU _ _ _ _ _ _ _ _ ec rfl rfl rfl (zl rfl) rfl rfl⟩ ?_
 refine bK [60,1,2,3,4,5] ?_
 refine ag ?_
 obtain ⟨v3,hv3,h⟩:=zn h
 refine yx hn 2 ?_
 refine ys 0 ⟨lg call17 (mV _ _ _ _ _ hv3) 60⟩ ?_
 refine ym 4 ?_
 refine bK [60,1,2,3,4,5,6,7] ?_
 refine ag ?_
 refine aP h (fun (s7:Bool)=>[(60,.glob (GL mx)),(0,vb s7)]) ?_ ?_
 ·rintro s7 h
  refine ai (aD ?_)
  refine aC [1] (by kernel_rfl) (es':=[(_,_)]) rfl ?_
  obtain rfl:=zi h
  exact aF hio rfl (.tmp _ _ .nil) rfl rfl
 ·intro u8 h hl9 hr10
  refine au h (fun hg5_2 h => ?_) (fun hg5_2 h => ?_)
  ·refine au h (fun hg5_6 h => ?_) (fun hg5_6 h => ?_)
   ·refine au h (fun hg5_10 h => ?_) (fun hg5_10 h => ?_)
    ·obtain ⟨v4,hv4,h⟩:=zn h
     refine au h (fun hg5_15 h => ?_) (fun hg5_15 h => ?_)
     ·refine au h (fun hg5_19 h => ?_) (fun hg5_19 h => ?_)
      ·refine au h (fun hg5_24 h => ?_) (fun hg5_24 h => ?_)
       ·obtain ⟨v5,hv5,h⟩:=zn h
        obtain ⟨v6,hv6,h⟩:=zn h
        refine yx hn 3 ?_
        refine yd hg5_2 4 ?_
        refine yd hg5_6 4 ?_
        refine yd hg5_10 0 ?_
        refine yk [4] [] ?_
        refine yt (41,.agg [vi v2.1.Lg,vi v2.1.Lf,.fr (.own 46) false 8 (flatten (map ae.ienc v2.1.Ld))]) 0 ⟨aW _ _ _ _ underlying24 rfl ec rfl rfl⟩ ?_
        refine yk [1] [] ?_
        refine yt (42,.agg [vi 0,vi 1,.fr (.own 46) false 8 (flatten (map ae.ienc ([(ae.mk ((aj.mk true z0 z0)) ([(aj.mk false (⟨#[97]⟩:Li) (⟨#[98]⟩:Li))]) [] false z0 0)])))]) 0 ⟨aW _ _ _ _ underlying24 rfl ec rfl rfl⟩ ?_
        refine ys 2 ⟨lk call22 (bN _ _ _ hv4)⟩ ?_
        refine yd hg5_15 4 ?_
        refine yd hg5_19 5 ?_
        refine yd hg5_24 1 ?_
        refine yS (.fl .ro 1 (map (int .u8) v5)) 0 ⟨ik _ _ _ 0 14 _ underlying25 nV rfl rfl rfl ⟨_,rfl⟩ hv5⟩ ?_
        refine ys 3 ⟨lS hv6⟩ ?_
        refine ye [60,0] ?_
        exact hl9 _ (zi h).symm
       ·refine yx hn 3 ?_
        refine yd hg5_2 4 ?_
        refine yd hg5_6 4 ?_
        refine yd hg5_10 0 ?_
        refine yk [4] [] ?_
        refine yt (41,.agg [vi v2.1.Lg,vi v2.1.Lf,.fr (.own 46) false 8 (flatten (map ae.ienc v2.1.Ld))]) 0 ⟨aW _ _ _ _ underlying24 rfl ec rfl rfl⟩ ?_
        refine yk [1] [] ?_
        refine yt (42,.agg [vi 0,vi 1,.fr (.own 46) false 8 (flatten (map ae.ienc ([(ae.mk ((aj.mk true z0 z0)) ([(aj.mk false (⟨#[97]⟩:Li) (⟨#[98]⟩:Li))]) [] false z0 0)])))]) 0 ⟨aW _ _ _ _ underlying24 rfl ec rfl rfl⟩ ?_
        refine ys 2 ⟨lk call22 (bN _ _ _ hv4)⟩ ?_
        refine yd hg5_15 4 ?_
        refine yd hg5_19 5 ?_
        refine yd hg5_24 6 ?_
        refine ye [60,0] ?_
        exact hl9 _ (zi h).symm
      ·refine yx hn 3 ?_
       refine yd hg5_2 4 ?_
       refine yd hg5_6 4 ?_
       refine yd hg5_10 0 ?_
       refine yk [4] [] ?_
       refine yt (41,.agg [vi v2.1.Lg,vi v2.1.Lf,.fr (.own 46) false 8 (flatten (map ae.ienc v2.1.Ld))]) 0 ⟨aW _ _ _ _ underlying24 rfl ec rfl rfl⟩ ?_
       refine yk [1] [] ?_
       refine yt (42,.agg [vi 0,vi 1,.fr (.own 46) false 8 (flatten (map ae.ienc ([(ae.mk ((aj.mk true z0 z0)) ([(aj.mk false (⟨#[97]⟩:Li) (⟨#[98]⟩:Li))]) [] false z0 0)])))]) 0 ⟨aW _ _ _ _ underlying24 rfl ec rfl rfl⟩ ?_
       refine ys 2 ⟨lk call22 (bN _ _ _ hv4)⟩ ?_
       refine yd hg5_15 4 ?_
       refine yd hg5_19 11 ?_
       refine ye [60,0] ?_
       exact hl9 _ (zi h).symm
     ·refine yx hn 3 ?_
      refine yd hg5_2 4 ?_
      refine yd hg5_6 4 ?_
      refine yd hg5_10 0 ?_
      refine yk [4] [] ?_
      refine yt (41,.agg [vi v2.1.Lg,vi v2.1.Lf,.fr (.own 46) false 8 (flatten (map ae.ienc v2.1.Ld))]) 0 ⟨aW _ _ _ _ underlying24 rfl ec rfl rfl⟩ ?_
      refine yk [1] [] ?_
      refine yt (42,.agg [vi 0,vi 1,.fr (.own 46) false 8 (flatten (map ae.ienc ([(ae.mk ((aj.mk true z0 z0)) ([(aj.mk false (⟨#[97]⟩:Li) (⟨#[98]⟩:Li))]) [] false z0 0)])))]) 0 ⟨aW _ _ _ _ underlying24 rfl ec rfl rfl⟩ ?_
      refine ys 2 ⟨lk call22 (bN _ _ _ hv4)⟩ ?_
      refine yd hg5_15 15 ?_
      refine ye [60,0] ?_
      exact hl9 _ (zi h).symm
    ·refine yx hn 3 ?_
     refine yd hg5_2 4 ?_
     refine yd hg5_6 4 ?_
     refine yd hg5_10 20 ?_
     refine ye [60,0] ?_
     exact hl9 _ (zi h).symm
   ·refine yx hn 3 ?_
    refine yd hg5_2 4 ?_
    refine yd hg5_6 24 ?_
    refine ye [60,0] ?_
    exact hl9 _ (zi h).symm
  ·refine yx hn 3 ?_
   refine yd hg5_2 28 ?_
   refine ye [60,0] ?_
   exact hl9 _ (zi h).symm
end Go.Proofs.YtglabbpbianmnaaGreatDoor
