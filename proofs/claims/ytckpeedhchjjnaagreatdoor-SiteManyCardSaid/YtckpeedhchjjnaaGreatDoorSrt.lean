import Derived.Test.YtckpeedhchjjnaaGreatDoorProg
import Derived.Test.YtckpeedhchjjnaaGreatDoorB8
import Derived.Sort.WalkA
import Derived.Sort.WalkB2
import Derived.Sort.WalkB12
import Derived.Deep.LoopGhost
import Derived.KernelRfl
set_option linter.unusedVariables false
set_option linter.unusedSimpArgs false
set_option maxRecDepth 100000
namespace Go.Proofs
open Go.Shelf Go.RowKit Go.Lib Go.Sort Go.Abs

set_option maxHeartbeats 4000000 in
theorem Tryz.srt_swap (enc:Nat→Value) (g:Nat) (cb:Array Value) (blk off cap:Nat) (d0 d:Array Nat) (w0 w:World) (R:Row1 enc w0 blk off d0) (hs:d.size=d0.size) (S:SW enc w0 blk off d w) (hsz:d0.size<4611686018427387904) (a b n:Nat) (hab:a+n≤b) (hb:b+n≤d0.size) :
  Calls Tryz.prog 361 #[.slice (some ⟨blk, off, none⟩) d0.size cap, .int .i64 a, .int .i64 b, .int .i64 n, .func (.func g) #[] cb] w fun e w'=>e = .returned (.tuple #[])∧∃ d', PermIn a (b+n) d d'∧(∀ k, d'[k]! = sM d a b n k)∧SW enc w0 blk off d' w':=by
 have mixed:Tryz.prog.follows Departure.mixedOrders=true:=by kernel_rfl
 have hcl0:=R.hO.cells
 simp only [Value.cells] at hcl0
 have hst:=R.hO.store Tryz.prog
 have S0:Aside (SW enc w0 blk off d w):=S
 clear S
 go_enter Tryz.func361, Tryz.ntmps361
 go_wp2
 go_loopg [10] n (fun kx vi wr=>∃ (i:Nat) (dk:Array Nat), vi = .int .i64 i∧i≤n∧n-i≤kx∧dk.size=d0.size∧Aside (SW enc w0 blk off dk wr)∧PermIn a (b+n) d dk∧Hid (∀ k, dk[k]! = sM d a b i k))
 case atStart=>exact ⟨0, d, by go_num, by omega, by omega, hs, S0, permIn_refl _ _ _, fun k=>(De d a b k).symm⟩
 case round =>
  clear S0
  obtain ⟨i, dk, rfl, hin, hkx, hds, S1, hp, HI⟩:=hrel
  by_cases hlt:i<n
  · have hltz:(i:Int)<(n:Int):=by omega
    have hwa:IntKind.i64.wrap ((a:Int)+(i:Int))=(a:Int)+(i:Int):=by rw [IntKind.wrap_i64]; omega
    have hwb:IntKind.i64.wrap ((b:Int)+(i:Int))=(b:Int)+(i:Int):=by rw [IntKind.wrap_i64]; omega
    go_wp2_with fail
    obtain ⟨iN1, hiN1⟩:∃ z0, z0=a+i:=⟨_, rfl⟩
    obtain ⟨jN1, hjN1⟩:∃ z0, z0=b+i:=⟨_, rfl⟩
    have ea1:((a:Int)+(i:Int)).toNat=iN1:=by omega
    have pa1:(0:Int)≤(a:Int)+(i:Int):=by omega
    have ba1:(a:Int)+(i:Int)<(d0.size:Int):=by omega
    have ra1:IntKind.i64.wrap ((a:Int)+(i:Int))=(a:Int)+(i:Int):=by rw [IntKind.wrap_i64]; omega
    have ec1:((b:Int)+(i:Int)).toNat=jN1:=by omega
    have pc1:(0:Int)≤(b:Int)+(i:Int):=by omega
    have bc1:(b:Int)+(i:Int)<(d0.size:Int):=by omega
    have rc1:IntKind.i64.wrap ((b:Int)+(i:Int))=(b:Int)+(i:Int):=by rw [IntKind.wrap_i64]; omega
    obtain ⟨x1, hx1⟩:∃ x, x=dk[a+i]! := ⟨_, rfl⟩
    obtain ⟨y1, hy1⟩:∃ x, x=dk[b+i]! := ⟨_, rfl⟩
    have S2:Aside (SW enc w0 blk off (swp dk (a+i) (b+i)) ((wr.setCell ⟨blk, off+iN1, none⟩ (enc y1)).setCell ⟨blk, off+jN1, none⟩ (enc x1)).drew):=by rw [hiN1, hjN1, hx1, hy1]; exact S1.out.swapped R (a+i) (b+i) (by omega) (by omega)
    have c1a:=S1.out.c1 R (by omega) (a+i) (by omega)
    have c1b:=S1.out.c1 R (by omega) (b+i) (by omega)
    have f1a:=S1.out.f1 R (by omega) (a+i) (by omega)
    have f1b:=S1.out.f1 R (by omega) (b+i) (by omega)
    obtain ⟨u1, c1c⟩:=S1.out.c2 R (by omega) (a+i) (b+i) (by omega) (by omega) (enc y1)
    rw [← hjN1, ← hiN1] at c1c
    rw [← hx1, ← hiN1] at c1a
    rw [← hy1, ← hjN1] at c1b
    rw [← hiN1] at f1a
    rw [← hjN1] at f1b
    clear S1 hx1 hy1 hiN1 hjN1
    go_wp2_with fail
    go_big_region_o
    clear c1a c1b c1c f1a f1b
    generalize ((wr.setCell ⟨blk, off+iN1, none⟩ (enc y1)).setCell ⟨blk, off+jN1, none⟩ (enc x1)).drew=w2 at S2 ⊢
    clear ea1 ec1
    go_wp2
    go_roundg (n-(i+1))
    case measure=>omega
    case rel=>exact ⟨i+1, swp dk (a+i) (b+i), by go_num, by omega, aq _, by rw [size_swp]; exact hds, S2, permIn_trans _ _ _ _ _ hp (swp_permIn dk a (b+n) (a+i) (b+i) (by omega) (by omega) (by omega) (by omega) (by omega)), fun k=>Fu hab (by omega) hlt HI.out k⟩
  · have hltz:¬ (i:Int)<(n:Int):=by omega
    obtain rfl:i=n:=by omega
    go_wp2
    go_end0
    exact ⟨rfl, dk, hp, HI.out, S1.out⟩

theorem Tryz.srt_swapZ (enc:Nat→Value) (g:Nat) (cb:Array Value) (blk off cap:Nat) (d0 d:Array Nat) (w0 w:World) (R:Row1 enc w0 blk off d0) (hs:d.size=d0.size) (S:SW enc w0 blk off d w) (hsz:d0.size<4611686018427387904) (az bz nz:Int) (a b n:Nat) (ha:az=a) (hbz:bz=b) (hn:nz=n) (hab:a+n≤b) (hb:b+n≤d0.size) :
  Calls Tryz.prog 361 #[.slice (some ⟨blk, off, none⟩) d0.size cap, .int .i64 az, .int .i64 bz, .int .i64 nz, .func (.func g) #[] cb] w fun e w'=>e = .returned (.tuple #[])∧∃ d', PermIn a (b+n) d d'∧(∀ k, d'[k]! = sM d a b n k)∧SW enc w0 blk off d' w':=by
 subst ha hbz hn
 exact Tryz.srt_swap enc g cb blk off cap d0 d w0 w R hs S hsz a b n hab hb

set_option maxHeartbeats 4000000 in
theorem Tryz.srt_rot (enc:Nat→Value) (g:Nat) (cb:Array Value) (blk off cap:Nat) (d0 d:Array Nat) (w0 w:World) (R:Row1 enc w0 blk off d0) (hs:d.size=d0.size) (S:SW enc w0 blk off d w) (hsz:d0.size<4611686018427387904) (az mz bz:Int) (a m b:Nat) (ha:az=a) (hmz:mz=m) (hbz:bz=b) (ham:a<m) (hmb:m<b) (hb:b≤d0.size) :
  Calls Tryz.prog 360 #[.slice (some ⟨blk, off, none⟩) d0.size cap, .int .i64 az, .int .i64 mz, .int .i64 bz, .func (.func g) #[] cb] w fun e w'=>e = .returned (.tuple #[])∧∃ d', PermIn a b d d'∧(∀ k, d'[k]! = db d a m b k)∧SW enc w0 blk off d' w':=by
 subst ha hmz hbz
 have mixed:Tryz.prog.follows Departure.mixedOrders=true:=by kernel_rfl
 have hcl0:=R.hO.cells
 simp only [Value.cells] at hcl0
 have hst:=R.hO.store Tryz.prog
 have S0:Aside (SW enc w0 blk off d w):=S
 clear S
 go_enter Tryz.func360, Tryz.ntmps360
 go_wp2
 go_loopg [10, 11] (m-a+(b-m)) (fun kx vi vj wr=>∃ (i j:Nat) (dk:Array Nat), vi = .int .i64 i∧vj = .int .i64 j∧0<i∧0<j∧i≤m-a∧j≤b-m∧i+j≤kx∧dk.size=d0.size∧Aside (SW enc w0 blk off dk wr)∧PermIn a b d dk∧Hid (∀ k, db dk (m-i) m (m+j) k=db d a m b k))
 case atStart=>exact ⟨m-a, b-m, d, by go_num, by go_num, by omega, by omega, by omega, by omega, by omega, hs, S0, permIn_refl _ _ _, fun k=>by rw [show m-(m-a)=a by omega, show m+(b-m)=b by omega]⟩
 case round =>
  clear S0
  obtain ⟨i, j, dk, rfl, rfl, hi0, hj0, him, hjb, hkx, hds, S1, hp, HI⟩:=hrel
  rcases Nat.lt_trichotomy i j with hlt | heq | hgt
  · have h1:¬ (i:Int)=(j:Int):=by omega
    have h2:¬ (j:Int)<(i:Int):=by omega
    have hC:=fun az bz nz h1 h2 h3=>Tryz.srt_swapZ enc g cb blk off cap d0 dk w0 wr R hds S1.out hsz az bz nz (m-i) (m+j-i) i h1 h2 h3 (by omega) (by omega)
    clear S1
    go_wp2_with (first | (go_at_call 361; refine (hC _ _ _ ?_ ?_ ?_).mono ?_; (· omega); (· omega); (· omega); clear hC; rintro e w1 ⟨rfl, d1, p1, g1, S2⟩))
    have S2:Aside _:=S2
    go_wp2
    go_roundg (i+(j-i))
    case measure=>omega
    case rel=>exact ⟨i, j-i, d1, by go_num, by go_num, by omega, by omega, by omega, by omega, by omega, by rw [p1.1]; exact hds, S2, permIn_trans _ _ _ _ _ hp (permIn_mono _ _ _ _ _ _ (by omega) (by omega) (by omega) p1), fun k=>(Hd hlt (by omega) g1 k).trans (HI.out k)⟩
  · subst heq
    have h1:(i:Int)=(i:Int):=rfl
    have hC:=fun az bz nz h1 h2 h3=>Tryz.srt_swapZ enc g cb blk off cap d0 dk w0 wr R hds S1.out hsz az bz nz (m-i) m i h1 h2 h3 (by omega) (by omega)
    clear S1
    go_wp2_with (first | (go_at_call 361; refine (hC _ _ _ ?_ ?_ ?_).mono ?_; (· omega); (· omega); (· omega); clear hC; rintro e w1 ⟨rfl, d1, p1, g1, S2⟩))
    go_end0
    exact ⟨rfl, d1, permIn_trans _ _ _ _ _ hp (permIn_mono _ _ _ _ _ _ (by omega) (by omega) (by omega) p1), fun k=>(Ia (by omega) g1 k).trans (HI.out k), S2⟩
  · have h1:¬ (i:Int)=(j:Int):=by omega
    have h2:(j:Int)<(i:Int):=by omega
    have hC:=fun az bz nz h1 h2 h3=>Tryz.srt_swapZ enc g cb blk off cap d0 dk w0 wr R hds S1.out hsz az bz nz (m-i) m j h1 h2 h3 (by omega) (by omega)
    clear S1
    go_wp2_with (first | (go_at_call 361; refine (hC _ _ _ ?_ ?_ ?_).mono ?_; (· omega); (· omega); (· omega); clear hC; rintro e w1 ⟨rfl, d1, p1, g1, S2⟩))
    have S2:Aside _:=S2
    go_wp2
    go_roundg (i-j+j)
    case measure=>omega
    case rel=>exact ⟨i-j, j, d1, by go_num, by go_num, by omega, by omega, by omega, by omega, by omega, by rw [p1.1]; exact hds, S2, permIn_trans _ _ _ _ _ hp (permIn_mono _ _ _ _ _ _ (by omega) (by omega) (by omega) p1), fun k=>(Hq hgt (by omega) g1 k).trans (HI.out k)⟩

set_option maxHeartbeats 4000000 in
theorem Tryz.srt_ins (enc:Nat→Value) (wt:Nat→Int) (cf:Nat→Nat→Int) (hcf:Hid (∀ x y, cf x y=wt x-wt y)) (g:Nat) (cb:Array Value) (blk off cap:Nat) (d0 d:Array Nat) (w0 w:World) (eg:∀ args w, (callFunc g args).run Tryz.prog w = .ok (.enter g args) w) (hcmp:CmpLays1 Tryz.prog g cb enc cf blk off d0.size w0) (R:Row1 enc w0 blk off d0) (hs:d.size=d0.size) (S:SW enc w0 blk off d w) (hsz:d0.size<4611686018427387904) (az bz:Int) (a b:Nat) (ha:az=a) (hbz:bz=b) (hab:a≤b) (hb:b≤d0.size) (hid:Ids d a b a) :
  Calls Tryz.prog 358 #[.slice (some ⟨blk, off, none⟩) d0.size cap, .int .i64 az, .int .i64 bz, .func (.func g) #[] cb] w fun e w'=>e = .returned (.tuple #[])∧∃ d', PermIn a b d d'∧Up wt d' a b∧SW enc w0 blk off d' w':=by
 subst ha hbz
 have mixed:Tryz.prog.follows Departure.mixedOrders=true:=by kernel_rfl
 have hcl0:=R.hO.cells
 simp only [Value.cells] at hcl0
 have hst:=R.hO.store Tryz.prog
 have S0:Aside (SW enc w0 blk off d w):=S
 clear S
 have HC:Aside _:=hcmp
 clear hcmp
 have HI0:Hid (Ids d a b a):=hid
 clear hid
 go_enter Tryz.func358, Tryz.ntmps358
 go_wp2
 go_loopg [8] (b-a) (fun g1 vi wr=>∃ (i:Nat) (dk:Array Nat), vi = .int .i64 i∧a<i∧i≤b+1∧b+1-i≤g1+1∧dk.size=d0.size∧Aside (SW enc w0 blk off dk wr)∧Hid (PermIn a b d dk)∧Hid (Up wt dk a i)∧Hid (Ids dk a b i))
 case atStart=>exact ⟨a+1, d, by go_num, by omega, by omega, by omega, hs, S0, permIn_refl _ _ _, fun i j _ _ _=>by omega, fun k t h1 h2 h3 h4=>HI0.out k t h1 h2 (by omega) h4⟩
 case round =>
  clear S0
  obtain ⟨i, dk, rfl, hai, hib, hg1, hsk, S1, HP, HU, HI⟩:=hrel
  by_cases hlt:i<b
  · have hltz:(i:Int)<(b:Int):=by omega
    go_wp2
    go_loopg [9] i (fun g2 vj wr2=>∃ (j:Nat) (dj:Array Nat), vj = .int .i64 j∧a≤j∧j≤i∧j≤g2∧dj.size=d0.size∧Aside (SW enc w0 blk off dj wr2)∧Hid (PermIn a b d dj)∧Hid (BT wt dk dj a i j))
    case atStart=>exact ⟨i, dk, rfl, by omega, aq _, aq _, hsk, S1, HP, BT.start⟩
    case round =>
     clear S1
     obtain ⟨j, dj, rfl, haj, hji, hg2, hsj, SJ, HQ, HM⟩:=hrel
     have OUT:Aside ((j≤a∨¬ wt dj[j]! - wt dj[j-1]! < 0)→Up wt dj a (i+1)):=fun hs=>HM.out.done HU.out haj hji (fun k h1 h2=>HI.out k i h1 h2 (aq _) hlt) hs
     by_cases hja:a<j
     · have hjaz:(a:Int)<(j:Int):=by omega
       obtain ⟨jp, hjp⟩:∃ q, q+1=j:=⟨j-1, by omega⟩
       have zjp:(j:Int)=(jp:Int)+1:=by omega
       have hjad:decide ((jp:Int)+1 > (a:Int))=true:=decide_eq_true (by omega)
       have hjaz':(a:Int)<(jp:Int)+1:=by omega
       by_cases hlv:cf dj[j]! dj[j-1]! < 0
       · have hw:wt dj[j]! - wt dj[j-1]! < 0:=by rw [← hcf.out]; exact hlv
         obtain ⟨iN2, hiN2⟩:∃ z0, z0=j:=⟨_, rfl⟩
         obtain ⟨jN2, hjN2⟩:∃ z0, z0=j-1:=⟨_, rfl⟩
         have ea2:((jp:Int)+1).toNat=iN2:=by omega
         have pa2:(0:Int)≤(jp:Int)+1:=by omega
         have ba2:(jp:Int)+1<(d0.size:Int):=by omega
         have ra2:IntKind.i64.wrap ((jp:Int)+1)=(jp:Int)+1:=by rw [IntKind.wrap_i64]; omega
         have ec2:((jp:Int)).toNat=jN2:=by omega
         have pc2:(0:Int)≤(jp:Int):=by omega
         have bc2:(jp:Int)<(d0.size:Int):=by omega
         have rc2:IntKind.i64.wrap ((jp:Int))=(jp:Int):=by rw [IntKind.wrap_i64]; omega
         obtain ⟨x2, hx2⟩:∃ x, x=dj[j]! := ⟨_, rfl⟩
         obtain ⟨y2, hy2⟩:∃ x, x=dj[j-1]! := ⟨_, rfl⟩
         have l2a:=SJ.out.cl R (by omega) (j) (by omega)
         have l2b:=SJ.out.cl R (by omega) (j-1) (by omega)
         rw [← hx2, ← hiN2] at l2a
         rw [← hy2, ← hjN2] at l2b
         have hc2:=SJ.out.cmp HC.out (by omega) x2 y2
         have hv2:cf x2 y2<0:=by rw [hx2, hy2]; exact hlv
         have hd2:decide (cf x2 y2<0)=true:=decide_eq_true hv2
         clear hx2 hy2 hiN2 hjN2
         go_wp2_with fail
         go_quiet_grown (first | (go_at_fn g; refine Calls.grown_of (hc2 _ _)))
         have S2:Aside (SW enc w0 blk off dj (grow (wr.drewN nq) osq)):=SJ.out.grown nq osq
         clear l2a l2b hc2 SJ
         generalize grow (wr.drewN nq) osq=w2 at S2 ⊢
         clear nq osq
         clear ea2 ec2
         clear hlv
         go_wp2_with fail
         obtain ⟨iN3, hiN3⟩:∃ z0, z0=j:=⟨_, rfl⟩
         obtain ⟨jN3, hjN3⟩:∃ z0, z0=j-1:=⟨_, rfl⟩
         have ea3:((jp:Int)+1).toNat=iN3:=by omega
         have pa3:(0:Int)≤(jp:Int)+1:=by omega
         have ba3:(jp:Int)+1<(d0.size:Int):=by omega
         have ra3:IntKind.i64.wrap ((jp:Int)+1)=(jp:Int)+1:=by rw [IntKind.wrap_i64]; omega
         have ec3:((jp:Int)).toNat=jN3:=by omega
         have pc3:(0:Int)≤(jp:Int):=by omega
         have bc3:(jp:Int)<(d0.size:Int):=by omega
         have rc3:IntKind.i64.wrap ((jp:Int))=(jp:Int):=by rw [IntKind.wrap_i64]; omega
         obtain ⟨x3, hx3⟩:∃ x, x=dj[j]! := ⟨_, rfl⟩
         obtain ⟨y3, hy3⟩:∃ x, x=dj[j-1]! := ⟨_, rfl⟩
         have S3:Aside (SW enc w0 blk off (swp dj (j) (j-1)) ((w2.setCell ⟨blk, off+iN3, none⟩ (enc y3)).setCell ⟨blk, off+jN3, none⟩ (enc x3)).drew):=by rw [hiN3, hjN3, hx3, hy3]; exact S2.out.swapped R (j) (j-1) (by omega) (by omega)
         have c3a:=S2.out.c1 R (by omega) (j) (by omega)
         have c3b:=S2.out.c1 R (by omega) (j-1) (by omega)
         have f3a:=S2.out.f1 R (by omega) (j) (by omega)
         have f3b:=S2.out.f1 R (by omega) (j-1) (by omega)
         obtain ⟨u3, c3c⟩:=S2.out.c2 R (by omega) (j) (j-1) (by omega) (by omega) (enc y3)
         rw [← hjN3, ← hiN3] at c3c
         rw [← hx3, ← hiN3] at c3a
         rw [← hy3, ← hjN3] at c3b
         rw [← hiN3] at f3a
         rw [← hjN3] at f3b
         clear S2 hx3 hy3 hiN3 hjN3
         go_wp2_with fail
         go_big_region_o
         clear c3a c3b c3c f3a f3b
         generalize ((w2.setCell ⟨blk, off+iN3, none⟩ (enc y3)).setCell ⟨blk, off+jN3, none⟩ (enc x3)).drew=w3 at S3 ⊢
         clear ea3 ec3
         go_wp2
         go_roundg (j-1)
         case measure=>omega
         case rel=>exact ⟨j-1, swp dj j (j-1), by first | rfl | go_num | (congr 1; omega), by omega, by omega, aq _, by rw [size_swp]; exact hsj, S3, permIn_trans _ _ _ _ _ HQ.out (swp_permIn dj a b j (j-1) (by omega) (by omega) (by omega) (by omega) (by omega)), HM.out.step (by omega) hji (by omega) hw⟩
       · have hw:¬ wt dj[j]! - wt dj[j-1]! < 0:=by rw [← hcf.out]; exact hlv
         obtain ⟨iN4, hiN4⟩:∃ z0, z0=j:=⟨_, rfl⟩
         obtain ⟨jN4, hjN4⟩:∃ z0, z0=j-1:=⟨_, rfl⟩
         have ea4:((jp:Int)+1).toNat=iN4:=by omega
         have pa4:(0:Int)≤(jp:Int)+1:=by omega
         have ba4:(jp:Int)+1<(d0.size:Int):=by omega
         have ra4:IntKind.i64.wrap ((jp:Int)+1)=(jp:Int)+1:=by rw [IntKind.wrap_i64]; omega
         have ec4:((jp:Int)).toNat=jN4:=by omega
         have pc4:(0:Int)≤(jp:Int):=by omega
         have bc4:(jp:Int)<(d0.size:Int):=by omega
         have rc4:IntKind.i64.wrap ((jp:Int))=(jp:Int):=by rw [IntKind.wrap_i64]; omega
         obtain ⟨x4, hx4⟩:∃ x, x=dj[j]! := ⟨_, rfl⟩
         obtain ⟨y4, hy4⟩:∃ x, x=dj[j-1]! := ⟨_, rfl⟩
         have l4a:=SJ.out.cl R (by omega) (j) (by omega)
         have l4b:=SJ.out.cl R (by omega) (j-1) (by omega)
         rw [← hx4, ← hiN4] at l4a
         rw [← hy4, ← hjN4] at l4b
         have hc4:=SJ.out.cmp HC.out (by omega) x4 y4
         have hv4:¬ cf x4 y4<0:=by rw [hx4, hy4]; exact hlv
         have hd4:decide (cf x4 y4<0)=false:=decide_eq_false hv4
         clear hx4 hy4 hiN4 hjN4
         go_wp2_with fail
         go_quiet_grown (first | (go_at_fn g; refine Calls.grown_of (hc4 _ _)))
         have S2:Aside (SW enc w0 blk off dj (grow (wr.drewN nq) osq)):=SJ.out.grown nq osq
         clear l4a l4b hc4 SJ
         generalize grow (wr.drewN nq) osq=w2 at S2 ⊢
         clear nq osq
         clear ea4 ec4
         clear hlv
         go_wp2
         go_roundg (b-(i+1))
         case measure=>omega
         case rel=>exact ⟨i+1, dj, by go_num, by omega, by omega, by omega, hsj, S2, HQ, OUT.out (Or.inr hw), HM.out.ids haj hji HI.out⟩
     · have hjaz:decide ((j:Int) > (a:Int))=false:=decide_eq_false (by omega)
       have hjaz':¬ (a:Int)<(j:Int):=by omega
       go_wp2_with fail
       go_big_region_o
       have S2:Aside (SW enc w0 blk off dj wr.drew):=SJ.out.drew
       clear SJ
       generalize wr.drew=w2 at S2 ⊢
       go_wp2
       go_roundg (b-(i+1))
       case measure=>omega
       case rel=>exact ⟨i+1, dj, by go_num, by omega, by omega, by omega, hsj, S2, HQ, OUT.out (Or.inl (by omega)), HM.out.ids haj hji HI.out⟩
  · have hltz:¬ (i:Int)<(b:Int):=by omega
    go_wp2
    go_end0
    exact ⟨rfl, dk, HP.out, fun p q h1 h2 h3=>HU.out p q h1 h2 (by omega), S1.out⟩

set_option maxHeartbeats 16000000 in
theorem Tryz.srt_sym (enc:Nat→Value) (wt:Nat→Int) (cf:Nat→Nat→Int) (hcf:Hid (∀ x y, cf x y=wt x-wt y)) (g:Nat) (cb:Array Value) (blk off cap:Nat) (d0:Array Nat) (w0:World) (eg:∀ args w, (callFunc g args).run Tryz.prog w = .ok (.enter g args) w) (hcmp:CmpLays1 Tryz.prog g cb enc cf blk off d0.size w0) (R:Row1 enc w0 blk off d0) (hsz:d0.size<4611686018427387904) (n:Nat):∀ (d:Array Nat) (w:World) (az mz bz:Int) (a m b:Nat), az=a→mz=m→bz=b→b-a≤n→a<m→m<b→b≤d0.size→d.size=d0.size→SW enc w0 blk off d w→Eg wt d a m b →
   Calls Tryz.prog 359 #[.slice (some ⟨blk, off, none⟩) d0.size cap, .int .i64 az, .int .i64 mz, .int .i64 bz, .func (.func g) #[] cb] w fun e w'=>e = .returned (.tuple #[])∧∃ d', PermIn a b d d'∧Up wt d' a b∧SW enc w0 blk off d' w':=by
 induction n with
 | zero=>intro d w az mz bz a m b _ _ _ h1 h2 h3; omega
 | succ n IH =>
 intro d w az mz bz a m b ha hmz hbz hn ham hmb hb hs S HT
 subst ha hmz hbz
 have mixed:Tryz.prog.follows Departure.mixedOrders=true:=by kernel_rfl
 have hcl0:=R.hO.cells
 simp only [Value.cells] at hcl0
 have hst:=R.hO.store Tryz.prog
 have S0:Aside (SW enc w0 blk off d w):=S
 clear S
 have HC:Aside _:=hcmp
 clear hcmp
 have HT0:Hid _:=HT
 clear HT
 have IH0:Aside _:=IH
 clear IH
 by_cases hm1:m=a+1
 · have h1:(m:Int)-(a:Int)=1:=by omega
   have hma:m≤a+1:=by omega
   have HM1:Hid (m=a+1):=hm1
   clear hm1
   go_enter Tryz.func359, Tryz.ntmps359
   go_wp2
   go_loopg [10, 11] (b-m) (fun kx vi vj wr=>∃ (i j:Nat), vi = .int .i64 i∧vj = .int .i64 j∧m≤i∧i≤j∧j≤b∧j-i≤kx∧Aside (SW enc w0 blk off d wr)∧Hid (∀ k, m≤k→k<i→Le wt d[k]! d[a]!)∧Hid (∀ k, j≤k→k<b→Le wt d[a]! d[k]!))
   case atStart=>exact ⟨m, b, by go_num, by go_num, by omega, by omega, by omega, by omega, S0, fun k _ _=>by omega, fun k _ _=>by omega⟩
   case round =>
     clear S0
     obtain ⟨i, j, rfl, rfl, hmi, hij, hjb, hkx, S1, HL, HR⟩:=hrel
     by_cases hlt:i<j
     · have hltz:(i:Int)<(j:Int):=by omega
       obtain ⟨h, hh⟩:∃ h:Nat, h=(i+j) / 2:=⟨_, rfl⟩
       have hz:((i:Int)+(j:Int)) / 2=(h:Int):=by omega
       have hih:i≤h:=by omega
       have hhj:h<j:=by omega
       clear hh
       by_cases hlv:cf d[h]! d[a]! < 0
       · have hw:wt d[h]! - wt d[a]! < 0:=by rw [← hcf.out]; exact hlv
         obtain ⟨iN5, hiN5⟩:∃ z0, z0=h:=⟨_, rfl⟩
         obtain ⟨jN5, hjN5⟩:∃ z0, z0=a:=⟨_, rfl⟩
         have ea5:((h:Int)).toNat=iN5:=by omega
         have pa5:(0:Int)≤(h:Int):=by omega
         have ba5:(h:Int)<(d0.size:Int):=by omega
         have ra5:IntKind.i64.wrap ((h:Int))=(h:Int):=by rw [IntKind.wrap_i64]; omega
         have ec5:((a:Int)).toNat=jN5:=by omega
         have pc5:(0:Int)≤(a:Int):=by omega
         have bc5:(a:Int)<(d0.size:Int):=by omega
         have rc5:IntKind.i64.wrap ((a:Int))=(a:Int):=by rw [IntKind.wrap_i64]; omega
         obtain ⟨x5, hx5⟩:∃ x, x=d[h]! := ⟨_, rfl⟩
         obtain ⟨y5, hy5⟩:∃ x, x=d[a]! := ⟨_, rfl⟩
         have l5a:=S1.out.cl R (by omega) (h) (by omega)
         have l5b:=S1.out.cl R (by omega) (a) (by omega)
         rw [← hx5, ← hiN5] at l5a
         rw [← hy5, ← hjN5] at l5b
         have hc5:=S1.out.cmp HC.out (by omega) x5 y5
         have hv5:cf x5 y5<0:=by rw [hx5, hy5]; exact hlv
         have hd5:decide (cf x5 y5<0)=true:=decide_eq_true hv5
         clear hx5 hy5 hiN5 hjN5
         go_wp2_with fail
         go_quiet_grown (first | (go_at_fn g; refine Calls.grown_of (hc5 _ _)))
         have S2:Aside (SW enc w0 blk off d (grow (wr.drewN nq) osq)):=S1.out.grown nq osq
         clear l5a l5b hc5 S1
         generalize grow (wr.drewN nq) osq=w2 at S2 ⊢
         clear nq osq
         clear ea5 ec5
         clear hlv
         go_wp2
         go_roundg (j-(h+1))
         case measure=>omega
         case rel=>exact ⟨h+1, j, by go_num, by go_num, by omega, by omega, by omega, aq _, S2, fun k hk hk2=>(HT0.out.right.le hk (show k≤h by omega) (by omega)).trans (Le.of_lt hw), HR⟩
       · have hw:Hid (¬ wt d[h]! - wt d[a]! < 0):=by show ¬ _; rw [← hcf.out]; exact hlv
         obtain ⟨iN6, hiN6⟩:∃ z0, z0=h:=⟨_, rfl⟩
         obtain ⟨jN6, hjN6⟩:∃ z0, z0=a:=⟨_, rfl⟩
         have ea6:((h:Int)).toNat=iN6:=by omega
         have pa6:(0:Int)≤(h:Int):=by omega
         have ba6:(h:Int)<(d0.size:Int):=by omega
         have ra6:IntKind.i64.wrap ((h:Int))=(h:Int):=by rw [IntKind.wrap_i64]; omega
         have ec6:((a:Int)).toNat=jN6:=by omega
         have pc6:(0:Int)≤(a:Int):=by omega
         have bc6:(a:Int)<(d0.size:Int):=by omega
         have rc6:IntKind.i64.wrap ((a:Int))=(a:Int):=by rw [IntKind.wrap_i64]; omega
         obtain ⟨x6, hx6⟩:∃ x, x=d[h]! := ⟨_, rfl⟩
         obtain ⟨y6, hy6⟩:∃ x, x=d[a]! := ⟨_, rfl⟩
         have l6a:=S1.out.cl R (by omega) (h) (by omega)
         have l6b:=S1.out.cl R (by omega) (a) (by omega)
         rw [← hx6, ← hiN6] at l6a
         rw [← hy6, ← hjN6] at l6b
         have hc6:=S1.out.cmp HC.out (by omega) x6 y6
         have hv6:¬ cf x6 y6<0:=by rw [hx6, hy6]; exact hlv
         have hd6:decide (cf x6 y6<0)=false:=decide_eq_false hv6
         clear hx6 hy6 hiN6 hjN6
         go_wp2_with fail
         go_quiet_grown (first | (go_at_fn g; refine Calls.grown_of (hc6 _ _)))
         have S2:Aside (SW enc w0 blk off d (grow (wr.drewN nq) osq)):=S1.out.grown nq osq
         clear l6a l6b hc6 S1
         generalize grow (wr.drewN nq) osq=w2 at S2 ⊢
         clear nq osq
         clear ea6 ec6
         clear hlv
         go_wp2
         go_roundg (h-i)
         case measure=>omega
         case rel=>exact ⟨i, h, by go_num, by go_num, by omega, by omega, by omega, aq _, S2, HL, fun k hk hk2=>(Le.of_not (by have:=hw.out; omega) (HT0.out.ids a h (aq _) ham (by omega) (by omega))).trans (HT0.out.right.le (by omega) hk hk2)⟩
     · have hltz:¬ (i:Int)<(j:Int):=by omega
       obtain rfl:i=j:=by omega
       go_wp2
       go_loopg [13] (i-a) (fun kx vk wr=>∃ (k:Nat) (dk:Array Nat), vk = .int .i64 k∧a≤k∧k+1≤i∧i-k≤kx∧dk.size=d0.size∧Aside (SW enc w0 blk off dk wr)∧Hid (PermIn a b d dk)∧Hid (∀ q, dk[q]! = db d a (a+1) (k+1) q))
       case atStart=>exact ⟨a, d, by go_num, by omega, by omega, by omega, hs, S1, permIn_refl _ _ _, fun q=>by rw [xH]⟩
       case round =>
         clear S1
         obtain ⟨k, dk, rfl, hak, hki, hkx2, hsk, S1, HP, HG⟩:=hrel
         by_cases hlt2:k+1<i
         · have hltz2:(k:Int)<(i:Int)-1:=by omega
           go_wp2_with fail
           obtain ⟨iN7, hiN7⟩:∃ z0, z0=k:=⟨_, rfl⟩
           obtain ⟨jN7, hjN7⟩:∃ z0, z0=k+1:=⟨_, rfl⟩
           have ea7:((k:Int)).toNat=iN7:=by omega
           have pa7:(0:Int)≤(k:Int):=by omega
           have ba7:(k:Int)<(d0.size:Int):=by omega
           have ra7:IntKind.i64.wrap ((k:Int))=(k:Int):=by rw [IntKind.wrap_i64]; omega
           have ec7:((k:Int)+1).toNat=jN7:=by omega
           have pc7:(0:Int)≤(k:Int)+1:=by omega
           have bc7:(k:Int)+1<(d0.size:Int):=by omega
           have rc7:IntKind.i64.wrap ((k:Int)+1)=(k:Int)+1:=by rw [IntKind.wrap_i64]; omega
           obtain ⟨x7, hx7⟩:∃ x, x=dk[k]! := ⟨_, rfl⟩
           obtain ⟨y7, hy7⟩:∃ x, x=dk[k+1]! := ⟨_, rfl⟩
           have S3:Aside (SW enc w0 blk off (swp dk (k) (k+1)) ((wr.setCell ⟨blk, off+iN7, none⟩ (enc y7)).setCell ⟨blk, off+jN7, none⟩ (enc x7)).drew):=by rw [hiN7, hjN7, hx7, hy7]; exact S1.out.swapped R (k) (k+1) (by omega) (by omega)
           have c7a:=S1.out.c1 R (by omega) (k) (by omega)
           have c7b:=S1.out.c1 R (by omega) (k+1) (by omega)
           have f7a:=S1.out.f1 R (by omega) (k) (by omega)
           have f7b:=S1.out.f1 R (by omega) (k+1) (by omega)
           obtain ⟨u7, c7c⟩:=S1.out.c2 R (by omega) (k) (k+1) (by omega) (by omega) (enc y7)
           rw [← hjN7, ← hiN7] at c7c
           rw [← hx7, ← hiN7] at c7a
           rw [← hy7, ← hjN7] at c7b
           rw [← hiN7] at f7a
           rw [← hjN7] at f7b
           clear S1 hx7 hy7 hiN7 hjN7
           go_wp2_with fail
           go_big_region_o
           clear c7a c7b c7c f7a f7b
           generalize ((wr.setCell ⟨blk, off+iN7, none⟩ (enc y7)).setCell ⟨blk, off+jN7, none⟩ (enc x7)).drew=w3 at S3 ⊢
           clear ea7 ec7
           go_wp2
           go_roundg (i-(k+1))
           case measure=>omega
           case rel=>exact ⟨k+1, swp dk k (k+1), by go_num, by omega, by omega, aq _, by rw [size_swp]; exact hsk, S3, permIn_trans _ _ _ _ _ HP.out (swp_permIn dk a b k (k+1) (by omega) (by omega) (by omega) (by omega) (by omega)), fun q=>DK hak (by omega) HG.out q⟩
         · have hltz2:¬ (k:Int)<(i:Int)-1:=by omega
           have hik:i≤k+1:=by omega
           go_wp2
           (try simp only [Exit.inBlock, Exit.then])
           refine bodyPost_ret (results_none rfl _ _ _) rfl ?_
           have hm1:=HM1.out
           subst hm1
           obtain rfl:i=k+1:=by omega
           exact ⟨rfl, dk, HP.out, Ec hmi hjb HT0.out.right HL.out HR.out HG.out, S1.out⟩
 · have hma:a+1<m:=by omega
   have h1:¬ (m:Int)-(a:Int)=1:=by omega
   have h1b:((m:Int)-(a:Int)==1)=false:=by simpa using h1
   clear hm1
   by_cases hb1:b=m+1
   · have h2:(b:Int)-(m:Int)=1:=by omega
     have hbm:b≤m+1:=by omega
     have HB1:Hid (b=m+1):=hb1
     clear hb1
     go_enter Tryz.func359, Tryz.ntmps359
     go_wp2
     go_loopg [14, 15] (m-a) (fun kx vi vj wr=>∃ (i j:Nat), vi = .int .i64 i∧vj = .int .i64 j∧a≤i∧i≤j∧j≤m∧j-i≤kx∧Aside (SW enc w0 blk off d wr)∧Hid (∀ k, a≤k→k<i→Le wt d[k]! d[m]!)∧Hid (∀ k, j≤k→k<m→Le wt d[m]! d[k]!))
     case atStart=>exact ⟨a, m, by go_num, by go_num, by omega, by omega, by omega, by omega, S0, fun k _ _=>by omega, fun k _ _=>by omega⟩
     case round =>
       clear S0
       obtain ⟨i, j, rfl, rfl, hmi, hij, hjb, hkx, S1, HL, HR⟩:=hrel
       by_cases hlt:i<j
       · have hltz:(i:Int)<(j:Int):=by omega
         obtain ⟨h, hh⟩:∃ h:Nat, h=(i+j) / 2:=⟨_, rfl⟩
         have hz:((i:Int)+(j:Int)) / 2=(h:Int):=by omega
         have hih:i≤h:=by omega
         have hhj:h<j:=by omega
         clear hh
         by_cases hlv:cf d[m]! d[h]! < 0
         · have hw:wt d[m]! - wt d[h]! < 0:=by rw [← hcf.out]; exact hlv
           obtain ⟨iN5, hiN5⟩:∃ z0, z0=m:=⟨_, rfl⟩
           obtain ⟨jN5, hjN5⟩:∃ z0, z0=h:=⟨_, rfl⟩
           have ea5:((m:Int)).toNat=iN5:=by omega
           have pa5:(0:Int)≤(m:Int):=by omega
           have ba5:(m:Int)<(d0.size:Int):=by omega
           have ra5:IntKind.i64.wrap ((m:Int))=(m:Int):=by rw [IntKind.wrap_i64]; omega
           have ec5:((h:Int)).toNat=jN5:=by omega
           have pc5:(0:Int)≤(h:Int):=by omega
           have bc5:(h:Int)<(d0.size:Int):=by omega
           have rc5:IntKind.i64.wrap ((h:Int))=(h:Int):=by rw [IntKind.wrap_i64]; omega
           obtain ⟨x5, hx5⟩:∃ x, x=d[m]! := ⟨_, rfl⟩
           obtain ⟨y5, hy5⟩:∃ x, x=d[h]! := ⟨_, rfl⟩
           have l5a:=S1.out.cl R (by omega) (m) (by omega)
           have l5b:=S1.out.cl R (by omega) (h) (by omega)
           rw [← hx5, ← hiN5] at l5a
           rw [← hy5, ← hjN5] at l5b
           have hc5:=S1.out.cmp HC.out (by omega) x5 y5
           have hv5:cf x5 y5<0:=by rw [hx5, hy5]; exact hlv
           have hd5:decide (cf x5 y5<0)=true:=decide_eq_true hv5
           clear hx5 hy5 hiN5 hjN5
           go_wp2_with fail
           go_quiet_grown (first | (go_at_fn g; refine Calls.grown_of (hc5 _ _)))
           have S2:Aside (SW enc w0 blk off d (grow (wr.drewN nq) osq)):=S1.out.grown nq osq
           clear l5a l5b hc5 S1
           generalize grow (wr.drewN nq) osq=w2 at S2 ⊢
           clear nq osq
           clear ea5 ec5
           clear hlv
           go_wp2
           go_roundg (h-i)
           case measure=>omega
           case rel=>exact ⟨i, h, by go_num, by go_num, by omega, by omega, by omega, aq _, S2, HL, fun k hk hk2=>(Le.of_lt hw).trans (HT0.out.left.le (by omega) hk hk2)⟩
         · have hw:Hid (¬ wt d[m]! - wt d[h]! < 0):=by show ¬ _; rw [← hcf.out]; exact hlv
           obtain ⟨iN6, hiN6⟩:∃ z0, z0=m:=⟨_, rfl⟩
           obtain ⟨jN6, hjN6⟩:∃ z0, z0=h:=⟨_, rfl⟩
           have ea6:((m:Int)).toNat=iN6:=by omega
           have pa6:(0:Int)≤(m:Int):=by omega
           have ba6:(m:Int)<(d0.size:Int):=by omega
           have ra6:IntKind.i64.wrap ((m:Int))=(m:Int):=by rw [IntKind.wrap_i64]; omega
           have ec6:((h:Int)).toNat=jN6:=by omega
           have pc6:(0:Int)≤(h:Int):=by omega
           have bc6:(h:Int)<(d0.size:Int):=by omega
           have rc6:IntKind.i64.wrap ((h:Int))=(h:Int):=by rw [IntKind.wrap_i64]; omega
           obtain ⟨x6, hx6⟩:∃ x, x=d[m]! := ⟨_, rfl⟩
           obtain ⟨y6, hy6⟩:∃ x, x=d[h]! := ⟨_, rfl⟩
           have l6a:=S1.out.cl R (by omega) (m) (by omega)
           have l6b:=S1.out.cl R (by omega) (h) (by omega)
           rw [← hx6, ← hiN6] at l6a
           rw [← hy6, ← hjN6] at l6b
           have hc6:=S1.out.cmp HC.out (by omega) x6 y6
           have hv6:¬ cf x6 y6<0:=by rw [hx6, hy6]; exact hlv
           have hd6:decide (cf x6 y6<0)=false:=decide_eq_false hv6
           clear hx6 hy6 hiN6 hjN6
           go_wp2_with fail
           go_quiet_grown (first | (go_at_fn g; refine Calls.grown_of (hc6 _ _)))
           have S2:Aside (SW enc w0 blk off d (grow (wr.drewN nq) osq)):=S1.out.grown nq osq
           clear l6a l6b hc6 S1
           generalize grow (wr.drewN nq) osq=w2 at S2 ⊢
           clear nq osq
           clear ea6 ec6
           clear hlv
           go_wp2
           go_roundg (j-(h+1))
           case measure=>omega
           case rel=>exact ⟨h+1, j, by go_num, by go_num, by omega, by omega, by omega, aq _, S2, fun k hk hk2=>(HT0.out.left.le hk (show k≤h by omega) (by omega)).trans (Le.of_not (by have:=hw.out; omega) (HT0.out.ids h m (by omega) (by omega) (aq _) hmb)), HR⟩
       · have hltz:¬ (i:Int)<(j:Int):=by omega
         obtain rfl:i=j:=by omega
         go_wp2
         go_loopg [17] (m-i) (fun kx vk wr=>∃ (k:Nat) (dk:Array Nat), vk = .int .i64 k∧i≤k∧k≤m∧k-i≤kx∧dk.size=d0.size∧Aside (SW enc w0 blk off dk wr)∧Hid (PermIn a b d dk)∧Hid (∀ q, dk[q]! = db d k m (m+1) q))
         case atStart=>exact ⟨m, d, by go_num, by omega, by omega, by omega, hs, S1, permIn_refl _ _ _, fun q=>by rw [nK]⟩
         case round =>
           clear S1
           obtain ⟨k, dk, rfl, hak, hki, hkx2, hsk, S1, HP, HG⟩:=hrel
           by_cases hlt2:i<k
           · obtain ⟨kp, hkp⟩:∃ q, q+1=k:=⟨k-1, by omega⟩
             have zkp:(k:Int)=(kp:Int)+1:=by omega
             have hltz2:(i:Int)<(kp:Int)+1:=by omega
             go_wp2_with fail
             obtain ⟨iN7, hiN7⟩:∃ z0, z0=k:=⟨_, rfl⟩
             obtain ⟨jN7, hjN7⟩:∃ z0, z0=k-1:=⟨_, rfl⟩
             have ea7:((kp:Int)+1).toNat=iN7:=by omega
             have pa7:(0:Int)≤(kp:Int)+1:=by omega
             have ba7:(kp:Int)+1<(d0.size:Int):=by omega
             have ra7:IntKind.i64.wrap ((kp:Int)+1)=(kp:Int)+1:=by rw [IntKind.wrap_i64]; omega
             have ec7:((kp:Int)).toNat=jN7:=by omega
             have pc7:(0:Int)≤(kp:Int):=by omega
             have bc7:(kp:Int)<(d0.size:Int):=by omega
             have rc7:IntKind.i64.wrap ((kp:Int))=(kp:Int):=by rw [IntKind.wrap_i64]; omega
             obtain ⟨x7, hx7⟩:∃ x, x=dk[k]! := ⟨_, rfl⟩
             obtain ⟨y7, hy7⟩:∃ x, x=dk[k-1]! := ⟨_, rfl⟩
             have S3:Aside (SW enc w0 blk off (swp dk (k) (k-1)) ((wr.setCell ⟨blk, off+iN7, none⟩ (enc y7)).setCell ⟨blk, off+jN7, none⟩ (enc x7)).drew):=by rw [hiN7, hjN7, hx7, hy7]; exact S1.out.swapped R (k) (k-1) (by omega) (by omega)
             have c7a:=S1.out.c1 R (by omega) (k) (by omega)
             have c7b:=S1.out.c1 R (by omega) (k-1) (by omega)
             have f7a:=S1.out.f1 R (by omega) (k) (by omega)
             have f7b:=S1.out.f1 R (by omega) (k-1) (by omega)
             obtain ⟨u7, c7c⟩:=S1.out.c2 R (by omega) (k) (k-1) (by omega) (by omega) (enc y7)
             rw [← hjN7, ← hiN7] at c7c
             rw [← hx7, ← hiN7] at c7a
             rw [← hy7, ← hjN7] at c7b
             rw [← hiN7] at f7a
             rw [← hjN7] at f7b
             clear S1 hx7 hy7 hiN7 hjN7
             go_wp2_with fail
             go_big_region_o
             clear c7a c7b c7c f7a f7b
             generalize ((wr.setCell ⟨blk, off+iN7, none⟩ (enc y7)).setCell ⟨blk, off+jN7, none⟩ (enc x7)).drew=w3 at S3 ⊢
             clear ea7 ec7
             go_wp2
             go_roundg (k-1-i)
             case measure=>omega
             case rel=>exact ⟨k-1, swp dk k (k-1), by first | rfl | go_num | (congr 1; omega), by omega, by omega, aq _, by rw [size_swp]; exact hsk, S3, permIn_trans _ _ _ _ _ HP.out (swp_permIn dk a b k (k-1) (by omega) (by omega) (by omega) (by omega) (by omega)), fun q=>zS (by omega) hki (by omega) HG.out q⟩
           · have hltz2:¬ (i:Int)<(k:Int):=by omega
             have hik:k≤i:=by omega
             go_wp2
             (try simp only [Exit.inBlock, Exit.then])
             refine bodyPost_ret (results_none rfl _ _ _) rfl ?_
             have hb1:=HB1.out
             subst hb1
             obtain rfl:i=k:=by omega
             exact ⟨rfl, dk, HP.out, yf hmi hjb HT0.out.left HL.out HR.out HG.out, S1.out⟩
   · have hbm:m+1<b:=by omega
     have h2:¬ (b:Int)-(m:Int)=1:=by omega
     have h2b:((b:Int)-(m:Int)==1)=false:=by simpa using h2
     clear hb1
     obtain ⟨mid, hmid⟩:∃ q, q=(a+b) / 2:=⟨_, rfl⟩
     have zmid:((a:Int)+(b:Int)) / 2=(mid:Int):=by omega
     have hmid1:a+1<mid:=by omega
     have hmid2:mid<b:=by omega
     have hmid3:2 * mid≤a+b:=by omega
     have hmid4:a+b≤2 * mid+1:=by omega
     obtain ⟨pz, zpz⟩:∃ q:Int, (mid:Int)+(m:Int)-1=q:=⟨_, rfl⟩
     have zpz1:pz≤(mid:Int)+(m:Int)-1:=by omega
     have zpz2:(mid:Int)+(m:Int)≤pz+1:=by omega
     clear hmid
     by_cases hgt:mid<m
     · have hgtz:(mid:Int)<(m:Int):=by omega
       go_enter Tryz.func359, Tryz.ntmps359
       go_wp2
       go_loopg [20, 21] (mid-(mid+m-b)) (fun kx vi vj wr=>∃ (s r:Nat), vi = .int .i64 s∧vj = .int .i64 r∧mid+m-b≤s∧s≤r∧r≤mid∧r-s≤kx∧Aside (SW enc w0 blk off d wr)∧Hid (mid+m-b<s→Le wt d[s-1]! d[mid+m-s]!)∧Hid (r<mid→Le wt d[mid+m-1-r]! d[r]!))
       case atStart=>exact ⟨mid+m-b, mid, by go_num, by go_num, by omega, by omega, by omega, by omega, S0, fun h=>by omega, fun h=>by omega⟩
       case round =>
         clear S0
         obtain ⟨s, r, rfl, rfl, hs0, hsr, hr0, hkx, S1, HA, HB⟩:=hrel
         by_cases hlt:s<r
         · have hltz:(s:Int)<(r:Int):=by omega
           obtain ⟨c, hh⟩:∃ c:Nat, c=(s+r) / 2:=⟨_, rfl⟩
           have hz:((s:Int)+(r:Int)) / 2=(c:Int):=by omega
           have hih:s≤c:=by omega
           have hhj:c<r:=by omega
           clear hh
           obtain ⟨q, hq⟩:∃ q:Nat, q=mid+m-1-c:=⟨_, rfl⟩
           have zq:pz-(c:Int)=(q:Int):=by omega
           have hq1:q+c+1≤mid+m:=by omega
           have hq2:mid+m≤q+c+1:=by omega
           have HQ:Hid (q=mid+m-1-c):=hq
           clear hq
           by_cases hlv:cf d[q]! d[c]! < 0
           · have hw:wt d[q]! - wt d[c]! < 0:=by rw [← hcf.out]; exact hlv
             obtain ⟨iN8, hiN8⟩:∃ z0, z0=q:=⟨_, rfl⟩
             obtain ⟨jN8, hjN8⟩:∃ z0, z0=c:=⟨_, rfl⟩
             have ea8:((q:Int)).toNat=iN8:=by omega
             have pa8:(0:Int)≤(q:Int):=by omega
             have ba8:(q:Int)<(d0.size:Int):=by omega
             have ra8:IntKind.i64.wrap ((q:Int))=(q:Int):=by rw [IntKind.wrap_i64]; omega
             have ec8:((c:Int)).toNat=jN8:=by omega
             have pc8:(0:Int)≤(c:Int):=by omega
             have bc8:(c:Int)<(d0.size:Int):=by omega
             have rc8:IntKind.i64.wrap ((c:Int))=(c:Int):=by rw [IntKind.wrap_i64]; omega
             obtain ⟨x8, hx8⟩:∃ x, x=d[q]! := ⟨_, rfl⟩
             obtain ⟨y8, hy8⟩:∃ x, x=d[c]! := ⟨_, rfl⟩
             have l8a:=S1.out.cl R (by omega) (q) (by omega)
             have l8b:=S1.out.cl R (by omega) (c) (by omega)
             rw [← hx8, ← hiN8] at l8a
             rw [← hy8, ← hjN8] at l8b
             have hc8:=S1.out.cmp HC.out (by omega) x8 y8
             have hv8:cf x8 y8<0:=by rw [hx8, hy8]; exact hlv
             have hd8:decide (cf x8 y8<0)=true:=decide_eq_true hv8
             clear hx8 hy8 hiN8 hjN8
             go_wp2_with fail
             go_quiet_grown (first | (go_at_fn g; refine Calls.grown_of (hc8 _ _)))
             have S2:Aside (SW enc w0 blk off d (grow (wr.drewN nq) osq)):=S1.out.grown nq osq
             clear l8a l8b hc8 S1
             generalize grow (wr.drewN nq) osq=w2 at S2 ⊢
             clear nq osq
             clear ea8 ec8
             clear hlv
             go_wp2
             go_roundg (c-s)
             case measure=>omega
             case rel=>exact ⟨s, c, by go_num, by go_num, by omega, by omega, by omega, aq _, S2, HA, fun _=>by rw [← HQ.out]; exact Le.of_lt hw⟩
           · have hw:Hid (¬ wt d[q]! - wt d[c]! < 0):=by show ¬ _; rw [← hcf.out]; exact hlv
             obtain ⟨iN9, hiN9⟩:∃ z0, z0=q:=⟨_, rfl⟩
             obtain ⟨jN9, hjN9⟩:∃ z0, z0=c:=⟨_, rfl⟩
             have ea9:((q:Int)).toNat=iN9:=by omega
             have pa9:(0:Int)≤(q:Int):=by omega
             have ba9:(q:Int)<(d0.size:Int):=by omega
             have ra9:IntKind.i64.wrap ((q:Int))=(q:Int):=by rw [IntKind.wrap_i64]; omega
             have ec9:((c:Int)).toNat=jN9:=by omega
             have pc9:(0:Int)≤(c:Int):=by omega
             have bc9:(c:Int)<(d0.size:Int):=by omega
             have rc9:IntKind.i64.wrap ((c:Int))=(c:Int):=by rw [IntKind.wrap_i64]; omega
             obtain ⟨x9, hx9⟩:∃ x, x=d[q]! := ⟨_, rfl⟩
             obtain ⟨y9, hy9⟩:∃ x, x=d[c]! := ⟨_, rfl⟩
             have l9a:=S1.out.cl R (by omega) (q) (by omega)
             have l9b:=S1.out.cl R (by omega) (c) (by omega)
             rw [← hx9, ← hiN9] at l9a
             rw [← hy9, ← hjN9] at l9b
             have hc9:=S1.out.cmp HC.out (by omega) x9 y9
             have hv9:¬ cf x9 y9<0:=by rw [hx9, hy9]; exact hlv
             have hd9:decide (cf x9 y9<0)=false:=decide_eq_false hv9
             clear hx9 hy9 hiN9 hjN9
             go_wp2_with fail
             go_quiet_grown (first | (go_at_fn g; refine Calls.grown_of (hc9 _ _)))
             have S2:Aside (SW enc w0 blk off d (grow (wr.drewN nq) osq)):=S1.out.grown nq osq
             clear l9a l9b hc9 S1
             generalize grow (wr.drewN nq) osq=w2 at S2 ⊢
             clear nq osq
             clear ea9 ec9
             clear hlv
             go_wp2
             go_roundg (r-(c+1))
             case measure=>omega
             case rel=>exact ⟨c+1, r, by go_num, by go_num, by omega, by omega, by omega, aq _, S2, fun _=>by rw [show c+1-1=c by omega, show mid+m-(c+1)=q by omega]; exact Le.of_not (by have:=hw.out; omega) (HT0.out.ids c q (by omega) (by omega) (by omega) (by omega)), HB⟩
         · have hltz:¬ (s:Int)<(r:Int):=by omega
           obtain rfl:s=r:=by omega
           obtain ⟨e, he⟩:∃ e, e=mid+m-s:=⟨_, rfl⟩
           have zen:(mid:Int)+(m:Int)-(s:Int)=(e:Int):=by omega
           have he1:e+s=mid+m:=by omega
           have HLO:Hid (a<s→e<b→Le wt d[s-1]! d[e]!):=fun q1 q2=>by
             rw [he]; exact HA.out (by omega)
           have HHI:Hid (s<m→m<e→Le wt d[e-1]! d[s]!):=fun q1 q2=>by
             rw [show e-1=mid+m-1-s by omega]; exact HB.out (by omega)
           clear HA HB he
           by_cases hem:e≤m
           · have c1:(s:Int)<(m:Int):=by omega
             have c2:¬ (m:Int)<(e:Int):=by omega
             have c3:(a:Int)<(s:Int):=by omega
             have c4:¬ (s:Int)<(mid:Int):=by omega
             have c5:(mid:Int)<(e:Int):=by omega
             have c6:(e:Int)<(b:Int):=by omega
             have hnil:Hid (∀ k, d[k]! = db d s m e k):=fun k=>by rw [show e=m by omega, xH]
             have H3:Hid _:=ma (d:=d) (a:=a) (b:=b) (mid:=mid) (s:=s) (e:=e) (m:=m) HT0.out (by omega) (by omega) (by omega) (by omega) (by omega) (by omega) (by omega) HLO.out HHI.out (d1:=d) hnil.out
             clear hnil
             have HP1:Hid (PermIn a b d d):=permIn_refl _ _ _
             have HP2:Hid (PermIn a mid d d):=permIn_refl _ _ _
             have HU2:Hid (Up wt d a mid):=fun i j q1 q2 q3=>H3.out.1.left i j q1 q2 (by omega)
             have hC3:=fun az mz bz q1 q2 q3=>IH0.out d wr az mz bz mid e b q1 q2 q3 (by omega) (by omega) (by omega) (by omega) hs S1.out (H3.out.2.1.after HP2.out (by omega) (by omega))
             clear S1
             go_wp2_with fail
             refine (hC3 _ _ _ ?_ ?_ ?_).mono ?_
             · omega
             · omega
             · omega
             clear hC3
             rintro e3 w3 ⟨rfl, d3, p3, u3, T3⟩
             have HP3:Hid (PermIn mid b d d3):=p3
             have HU3:Hid (Up wt d3 mid b):=u3
             have T3':Aside _:=T3
             clear p3 u3 T3
             go_wp2
             go_end0
             have hfin:=fM (by omega) (by omega) (by omega) HP1.out H3.out.2.2 HP2.out HU2.out HP3.out HU3.out
             exact ⟨rfl, d3, hfin.1, hfin.2, T3'.out⟩
           · by_cases ha1:a<s
             · by_cases hb1:e<b
               · have c1:(s:Int)<(m:Int):=by omega
                 have c2:(m:Int)<(e:Int):=by omega
                 have c3:(a:Int)<(s:Int):=by omega
                 have c4:(s:Int)<(mid:Int):=by omega
                 have c5:(mid:Int)<(e:Int):=by omega
                 have c6:(e:Int)<(b:Int):=by omega
                 have hC1:=fun az mz bz q1 q2 q3=>Tryz.srt_rot enc g cb blk off cap d0 d w0 wr R hs S1.out hsz az mz bz s m e q1 q2 q3 (by omega) (by omega) (by omega)
                 clear S1
                 go_wp2_with fail
                 refine (hC1 _ _ _ ?_ ?_ ?_).mono ?_
                 · omega
                 · omega
                 · omega
                 clear hC1
                 rintro e1 w1 ⟨rfl, d1, p1, g1, T1⟩
                 have H3:Hid _:=ma (d:=d) (a:=a) (b:=b) (mid:=mid) (s:=s) (e:=e) (m:=m) HT0.out (by omega) (by omega) (by omega) (by omega) (by omega) (by omega) (by omega) HLO.out HHI.out g1
                 have HP1:Hid (PermIn a b d d1):=permIn_mono _ _ _ _ _ _ (by omega) (by omega) (by omega) p1
                 have hz1:d1.size=d0.size:=by rw [p1.1]; exact hs
                 have T1':Aside _:=T1
                 clear p1 g1 T1
                 have hC2:=fun az mz bz q1 q2 q3=>IH0.out d1 w1 az mz bz a s mid q1 q2 q3 (by omega) (by omega) (by omega) (by omega) hz1 T1'.out H3.out.1
                 clear T1'
                 go_wp2_with fail
                 refine (hC2 _ _ _ ?_ ?_ ?_).mono ?_
                 · omega
                 · omega
                 · omega
                 clear hC2
                 rintro e2 w2 ⟨rfl, d2, p2, u2, T2⟩
                 have HP2:Hid (PermIn a mid d1 d2):=p2
                 have HU2:Hid (Up wt d2 a mid):=u2
                 have hz2:d2.size=d0.size:=by rw [p2.1]; exact hz1
                 have T2':Aside _:=T2
                 clear p2 u2 T2
                 have hC3:=fun az mz bz q1 q2 q3=>IH0.out d2 w2 az mz bz mid e b q1 q2 q3 (by omega) (by omega) (by omega) (by omega) hz2 T2'.out (H3.out.2.1.after HP2.out (by omega) (by omega))
                 clear T2'
                 go_wp2_with fail
                 refine (hC3 _ _ _ ?_ ?_ ?_).mono ?_
                 · omega
                 · omega
                 · omega
                 clear hC3
                 rintro e3 w3 ⟨rfl, d3, p3, u3, T3⟩
                 have HP3:Hid (PermIn mid b d2 d3):=p3
                 have HU3:Hid (Up wt d3 mid b):=u3
                 have T3':Aside _:=T3
                 clear p3 u3 T3
                 go_wp2
                 go_end0
                 have hfin:=fM (by omega) (by omega) (by omega) HP1.out H3.out.2.2 HP2.out HU2.out HP3.out HU3.out
                 exact ⟨rfl, d3, hfin.1, hfin.2, T3'.out⟩
               · have c1:(s:Int)<(m:Int):=by omega
                 have c2:(m:Int)<(e:Int):=by omega
                 have c3:(a:Int)<(s:Int):=by omega
                 have c4:(s:Int)<(mid:Int):=by omega
                 have c5:(mid:Int)<(e:Int):=by omega
                 have c6:¬ (e:Int)<(b:Int):=by omega
                 have hC1:=fun az mz bz q1 q2 q3=>Tryz.srt_rot enc g cb blk off cap d0 d w0 wr R hs S1.out hsz az mz bz s m e q1 q2 q3 (by omega) (by omega) (by omega)
                 clear S1
                 go_wp2_with fail
                 refine (hC1 _ _ _ ?_ ?_ ?_).mono ?_
                 · omega
                 · omega
                 · omega
                 clear hC1
                 rintro e1 w1 ⟨rfl, d1, p1, g1, T1⟩
                 have H3:Hid _:=ma (d:=d) (a:=a) (b:=b) (mid:=mid) (s:=s) (e:=e) (m:=m) HT0.out (by omega) (by omega) (by omega) (by omega) (by omega) (by omega) (by omega) HLO.out HHI.out g1
                 have HP1:Hid (PermIn a b d d1):=permIn_mono _ _ _ _ _ _ (by omega) (by omega) (by omega) p1
                 have hz1:d1.size=d0.size:=by rw [p1.1]; exact hs
                 have T1':Aside _:=T1
                 clear p1 g1 T1
                 have hC2:=fun az mz bz q1 q2 q3=>IH0.out d1 w1 az mz bz a s mid q1 q2 q3 (by omega) (by omega) (by omega) (by omega) hz1 T1'.out H3.out.1
                 clear T1'
                 go_wp2_with fail
                 refine (hC2 _ _ _ ?_ ?_ ?_).mono ?_
                 · omega
                 · omega
                 · omega
                 clear hC2
                 rintro e2 w2 ⟨rfl, d2, p2, u2, T2⟩
                 have HP2:Hid (PermIn a mid d1 d2):=p2
                 have HU2:Hid (Up wt d2 a mid):=u2
                 have hz2:d2.size=d0.size:=by rw [p2.1]; exact hz1
                 have T2':Aside _:=T2
                 clear p2 u2 T2
                 have HP3:Hid (PermIn mid b d2 d2):=permIn_refl _ _ _
                 have HU3:Hid (Up wt d2 mid b):=fun i j q1 q2 q3=>(H3.out.2.1.after HP2.out (by omega) (by omega)).left i j q1 q2 (by omega)
                 go_wp2
                 go_end0
                 have hfin:=fM (by omega) (by omega) (by omega) HP1.out H3.out.2.2 HP2.out HU2.out HP3.out HU3.out
                 exact ⟨rfl, d2, hfin.1, hfin.2, T2'.out⟩
             · by_cases hb1:e<b
               · have c1:(s:Int)<(m:Int):=by omega
                 have c2:(m:Int)<(e:Int):=by omega
                 have c3:¬ (a:Int)<(s:Int):=by omega
                 have c4:(mid:Int)<(e:Int):=by omega
                 have c5:(e:Int)<(b:Int):=by omega
                 have hC1:=fun az mz bz q1 q2 q3=>Tryz.srt_rot enc g cb blk off cap d0 d w0 wr R hs S1.out hsz az mz bz s m e q1 q2 q3 (by omega) (by omega) (by omega)
                 clear S1
                 go_wp2_with fail
                 refine (hC1 _ _ _ ?_ ?_ ?_).mono ?_
                 · omega
                 · omega
                 · omega
                 clear hC1
                 rintro e1 w1 ⟨rfl, d1, p1, g1, T1⟩
                 have H3:Hid _:=ma (d:=d) (a:=a) (b:=b) (mid:=mid) (s:=s) (e:=e) (m:=m) HT0.out (by omega) (by omega) (by omega) (by omega) (by omega) (by omega) (by omega) HLO.out HHI.out g1
                 have HP1:Hid (PermIn a b d d1):=permIn_mono _ _ _ _ _ _ (by omega) (by omega) (by omega) p1
                 have hz1:d1.size=d0.size:=by rw [p1.1]; exact hs
                 have T1':Aside _:=T1
                 clear p1 g1 T1
                 have HP2:Hid (PermIn a mid d1 d1):=permIn_refl _ _ _
                 have HU2:Hid (Up wt d1 a mid):=fun i j q1 q2 q3=>H3.out.1.right i j (by omega) q2 q3
                 have hC3:=fun az mz bz q1 q2 q3=>IH0.out d1 w1 az mz bz mid e b q1 q2 q3 (by omega) (by omega) (by omega) (by omega) hz1 T1'.out (H3.out.2.1.after HP2.out (by omega) (by omega))
                 clear T1'
                 go_wp2_with fail
                 refine (hC3 _ _ _ ?_ ?_ ?_).mono ?_
                 · omega
                 · omega
                 · omega
                 clear hC3
                 rintro e3 w3 ⟨rfl, d3, p3, u3, T3⟩
                 have HP3:Hid (PermIn mid b d1 d3):=p3
                 have HU3:Hid (Up wt d3 mid b):=u3
                 have T3':Aside _:=T3
                 clear p3 u3 T3
                 go_wp2
                 go_end0
                 have hfin:=fM (by omega) (by omega) (by omega) HP1.out H3.out.2.2 HP2.out HU2.out HP3.out HU3.out
                 exact ⟨rfl, d3, hfin.1, hfin.2, T3'.out⟩
               · have c1:(s:Int)<(m:Int):=by omega
                 have c2:(m:Int)<(e:Int):=by omega
                 have c3:¬ (a:Int)<(s:Int):=by omega
                 have c4:(mid:Int)<(e:Int):=by omega
                 have c5:¬ (e:Int)<(b:Int):=by omega
                 have hC1:=fun az mz bz q1 q2 q3=>Tryz.srt_rot enc g cb blk off cap d0 d w0 wr R hs S1.out hsz az mz bz s m e q1 q2 q3 (by omega) (by omega) (by omega)
                 clear S1
                 go_wp2_with fail
                 refine (hC1 _ _ _ ?_ ?_ ?_).mono ?_
                 · omega
                 · omega
                 · omega
                 clear hC1
                 rintro e1 w1 ⟨rfl, d1, p1, g1, T1⟩
                 have H3:Hid _:=ma (d:=d) (a:=a) (b:=b) (mid:=mid) (s:=s) (e:=e) (m:=m) HT0.out (by omega) (by omega) (by omega) (by omega) (by omega) (by omega) (by omega) HLO.out HHI.out g1
                 have HP1:Hid (PermIn a b d d1):=permIn_mono _ _ _ _ _ _ (by omega) (by omega) (by omega) p1
                 have hz1:d1.size=d0.size:=by rw [p1.1]; exact hs
                 have T1':Aside _:=T1
                 clear p1 g1 T1
                 have HP2:Hid (PermIn a mid d1 d1):=permIn_refl _ _ _
                 have HU2:Hid (Up wt d1 a mid):=fun i j q1 q2 q3=>H3.out.1.right i j (by omega) q2 q3
                 have HP3:Hid (PermIn mid b d1 d1):=permIn_refl _ _ _
                 have HU3:Hid (Up wt d1 mid b):=fun i j q1 q2 q3=>(H3.out.2.1.after HP2.out (by omega) (by omega)).left i j q1 q2 (by omega)
                 go_wp2
                 go_end0
                 have hfin:=fM (by omega) (by omega) (by omega) HP1.out H3.out.2.2 HP2.out HU2.out HP3.out HU3.out
                 exact ⟨rfl, d1, hfin.1, hfin.2, T1'.out⟩
     · have hgtz:¬ (mid:Int)<(m:Int):=by omega
       have hgt2:m≤mid:=by omega
       clear hgt
       go_enter Tryz.func359, Tryz.ntmps359
       go_wp2
       go_loopg [20, 21] (m-a) (fun kx vi vj wr=>∃ (s r:Nat), vi = .int .i64 s∧vj = .int .i64 r∧a≤s∧s≤r∧r≤m∧r-s≤kx∧Aside (SW enc w0 blk off d wr)∧Hid (a<s→Le wt d[s-1]! d[mid+m-s]!)∧Hid (r<m→Le wt d[mid+m-1-r]! d[r]!))
       case atStart=>exact ⟨a, m, by go_num, by go_num, by omega, by omega, by omega, by omega, S0, fun h=>by omega, fun h=>by omega⟩
       case round =>
         clear S0
         obtain ⟨s, r, rfl, rfl, hs0, hsr, hr0, hkx, S1, HA, HB⟩:=hrel
         by_cases hlt:s<r
         · have hltz:(s:Int)<(r:Int):=by omega
           obtain ⟨c, hh⟩:∃ c:Nat, c=(s+r) / 2:=⟨_, rfl⟩
           have hz:((s:Int)+(r:Int)) / 2=(c:Int):=by omega
           have hih:s≤c:=by omega
           have hhj:c<r:=by omega
           clear hh
           obtain ⟨q, hq⟩:∃ q:Nat, q=mid+m-1-c:=⟨_, rfl⟩
           have zq:pz-(c:Int)=(q:Int):=by omega
           have hq1:q+c+1≤mid+m:=by omega
           have hq2:mid+m≤q+c+1:=by omega
           have HQ:Hid (q=mid+m-1-c):=hq
           clear hq
           by_cases hlv:cf d[q]! d[c]! < 0
           · have hw:wt d[q]! - wt d[c]! < 0:=by rw [← hcf.out]; exact hlv
             obtain ⟨iN8, hiN8⟩:∃ z0, z0=q:=⟨_, rfl⟩
             obtain ⟨jN8, hjN8⟩:∃ z0, z0=c:=⟨_, rfl⟩
             have ea8:((q:Int)).toNat=iN8:=by omega
             have pa8:(0:Int)≤(q:Int):=by omega
             have ba8:(q:Int)<(d0.size:Int):=by omega
             have ra8:IntKind.i64.wrap ((q:Int))=(q:Int):=by rw [IntKind.wrap_i64]; omega
             have ec8:((c:Int)).toNat=jN8:=by omega
             have pc8:(0:Int)≤(c:Int):=by omega
             have bc8:(c:Int)<(d0.size:Int):=by omega
             have rc8:IntKind.i64.wrap ((c:Int))=(c:Int):=by rw [IntKind.wrap_i64]; omega
             obtain ⟨x8, hx8⟩:∃ x, x=d[q]! := ⟨_, rfl⟩
             obtain ⟨y8, hy8⟩:∃ x, x=d[c]! := ⟨_, rfl⟩
             have l8a:=S1.out.cl R (by omega) (q) (by omega)
             have l8b:=S1.out.cl R (by omega) (c) (by omega)
             rw [← hx8, ← hiN8] at l8a
             rw [← hy8, ← hjN8] at l8b
             have hc8:=S1.out.cmp HC.out (by omega) x8 y8
             have hv8:cf x8 y8<0:=by rw [hx8, hy8]; exact hlv
             have hd8:decide (cf x8 y8<0)=true:=decide_eq_true hv8
             clear hx8 hy8 hiN8 hjN8
             go_wp2_with fail
             go_quiet_grown (first | (go_at_fn g; refine Calls.grown_of (hc8 _ _)))
             have S2:Aside (SW enc w0 blk off d (grow (wr.drewN nq) osq)):=S1.out.grown nq osq
             clear l8a l8b hc8 S1
             generalize grow (wr.drewN nq) osq=w2 at S2 ⊢
             clear nq osq
             clear ea8 ec8
             clear hlv
             go_wp2
             go_roundg (c-s)
             case measure=>omega
             case rel=>exact ⟨s, c, by go_num, by go_num, by omega, by omega, by omega, aq _, S2, HA, fun _=>by rw [← HQ.out]; exact Le.of_lt hw⟩
           · have hw:Hid (¬ wt d[q]! - wt d[c]! < 0):=by show ¬ _; rw [← hcf.out]; exact hlv
             obtain ⟨iN9, hiN9⟩:∃ z0, z0=q:=⟨_, rfl⟩
             obtain ⟨jN9, hjN9⟩:∃ z0, z0=c:=⟨_, rfl⟩
             have ea9:((q:Int)).toNat=iN9:=by omega
             have pa9:(0:Int)≤(q:Int):=by omega
             have ba9:(q:Int)<(d0.size:Int):=by omega
             have ra9:IntKind.i64.wrap ((q:Int))=(q:Int):=by rw [IntKind.wrap_i64]; omega
             have ec9:((c:Int)).toNat=jN9:=by omega
             have pc9:(0:Int)≤(c:Int):=by omega
             have bc9:(c:Int)<(d0.size:Int):=by omega
             have rc9:IntKind.i64.wrap ((c:Int))=(c:Int):=by rw [IntKind.wrap_i64]; omega
             obtain ⟨x9, hx9⟩:∃ x, x=d[q]! := ⟨_, rfl⟩
             obtain ⟨y9, hy9⟩:∃ x, x=d[c]! := ⟨_, rfl⟩
             have l9a:=S1.out.cl R (by omega) (q) (by omega)
             have l9b:=S1.out.cl R (by omega) (c) (by omega)
             rw [← hx9, ← hiN9] at l9a
             rw [← hy9, ← hjN9] at l9b
             have hc9:=S1.out.cmp HC.out (by omega) x9 y9
             have hv9:¬ cf x9 y9<0:=by rw [hx9, hy9]; exact hlv
             have hd9:decide (cf x9 y9<0)=false:=decide_eq_false hv9
             clear hx9 hy9 hiN9 hjN9
             go_wp2_with fail
             go_quiet_grown (first | (go_at_fn g; refine Calls.grown_of (hc9 _ _)))
             have S2:Aside (SW enc w0 blk off d (grow (wr.drewN nq) osq)):=S1.out.grown nq osq
             clear l9a l9b hc9 S1
             generalize grow (wr.drewN nq) osq=w2 at S2 ⊢
             clear nq osq
             clear ea9 ec9
             clear hlv
             go_wp2
             go_roundg (r-(c+1))
             case measure=>omega
             case rel=>exact ⟨c+1, r, by go_num, by go_num, by omega, by omega, by omega, aq _, S2, fun _=>by rw [show c+1-1=c by omega, show mid+m-(c+1)=q by omega]; exact Le.of_not (by have:=hw.out; omega) (HT0.out.ids c q (by omega) (by omega) (by omega) (by omega)), HB⟩
         · have hltz:¬ (s:Int)<(r:Int):=by omega
           obtain rfl:s=r:=by omega
           obtain ⟨e, he⟩:∃ e, e=mid+m-s:=⟨_, rfl⟩
           have zen:(mid:Int)+(m:Int)-(s:Int)=(e:Int):=by omega
           have he1:e+s=mid+m:=by omega
           have HLO:Hid (a<s→e<b→Le wt d[s-1]! d[e]!):=fun q1 q2=>by
             rw [he]; exact HA.out (by omega)
           have HHI:Hid (s<m→m<e→Le wt d[e-1]! d[s]!):=fun q1 q2=>by
             rw [show e-1=mid+m-1-s by omega]; exact HB.out (by omega)
           clear HA HB he
           by_cases hsm:m≤s
           · by_cases hmm:m<mid
             · have c1:¬ (s:Int)<(m:Int):=by omega
               have c2:(a:Int)<(s:Int):=by omega
               have c3:(s:Int)<(mid:Int):=by omega
               have c4:¬ (mid:Int)<(e:Int):=by omega
               have hnil:Hid (∀ k, d[k]! = db d s m e k):=fun k=>by rw [show s=m by omega, nK]
               have H3:Hid _:=ma (d:=d) (a:=a) (b:=b) (mid:=mid) (s:=s) (e:=e) (m:=m) HT0.out (by omega) (by omega) (by omega) (by omega) (by omega) (by omega) (by omega) HLO.out HHI.out (d1:=d) hnil.out
               clear hnil
               have HP1:Hid (PermIn a b d d):=permIn_refl _ _ _
               have hC2:=fun az mz bz q1 q2 q3=>IH0.out d wr az mz bz a s mid q1 q2 q3 (by omega) (by omega) (by omega) (by omega) hs S1.out H3.out.1
               clear S1
               go_wp2_with fail
               refine (hC2 _ _ _ ?_ ?_ ?_).mono ?_
               · omega
               · omega
               · omega
               clear hC2
               rintro e2 w2 ⟨rfl, d2, p2, u2, T2⟩
               have HP2:Hid (PermIn a mid d d2):=p2
               have HU2:Hid (Up wt d2 a mid):=u2
               have hz2:d2.size=d0.size:=by rw [p2.1]; exact hs
               have T2':Aside _:=T2
               clear p2 u2 T2
               have HP3:Hid (PermIn mid b d2 d2):=permIn_refl _ _ _
               have HU3:Hid (Up wt d2 mid b):=fun i j q1 q2 q3=>(H3.out.2.1.after HP2.out (by omega) (by omega)).right i j (by omega) q2 q3
               go_wp2
               go_end0
               have hfin:=fM (by omega) (by omega) (by omega) HP1.out H3.out.2.2 HP2.out HU2.out HP3.out HU3.out
               exact ⟨rfl, d2, hfin.1, hfin.2, T2'.out⟩
             · have c1:¬ (s:Int)<(m:Int):=by omega
               have c2:(a:Int)<(s:Int):=by omega
               have c3:¬ (s:Int)<(mid:Int):=by omega
               have c4:¬ (mid:Int)<(e:Int):=by omega
               have hnil:Hid (∀ k, d[k]! = db d s m e k):=fun k=>by rw [show s=m by omega, nK]
               have H3:Hid _:=ma (d:=d) (a:=a) (b:=b) (mid:=mid) (s:=s) (e:=e) (m:=m) HT0.out (by omega) (by omega) (by omega) (by omega) (by omega) (by omega) (by omega) HLO.out HHI.out (d1:=d) hnil.out
               clear hnil
               have HP1:Hid (PermIn a b d d):=permIn_refl _ _ _
               have HP2:Hid (PermIn a mid d d):=permIn_refl _ _ _
               have HU2:Hid (Up wt d a mid):=fun i j q1 q2 q3=>H3.out.1.left i j q1 q2 (by omega)
               have HP3:Hid (PermIn mid b d d):=permIn_refl _ _ _
               have HU3:Hid (Up wt d mid b):=fun i j q1 q2 q3=>(H3.out.2.1.after HP2.out (by omega) (by omega)).right i j (by omega) q2 q3
               go_wp2
               go_end0
               have hfin:=fM (by omega) (by omega) (by omega) HP1.out H3.out.2.2 HP2.out HU2.out HP3.out HU3.out
               exact ⟨rfl, d, hfin.1, hfin.2, S1.out⟩
           · by_cases ha1:a<s
             · by_cases hb1:e<b
               · have c1:(s:Int)<(m:Int):=by omega
                 have c2:(m:Int)<(e:Int):=by omega
                 have c3:(a:Int)<(s:Int):=by omega
                 have c4:(s:Int)<(mid:Int):=by omega
                 have c5:(mid:Int)<(e:Int):=by omega
                 have c6:(e:Int)<(b:Int):=by omega
                 have hC1:=fun az mz bz q1 q2 q3=>Tryz.srt_rot enc g cb blk off cap d0 d w0 wr R hs S1.out hsz az mz bz s m e q1 q2 q3 (by omega) (by omega) (by omega)
                 clear S1
                 go_wp2_with fail
                 refine (hC1 _ _ _ ?_ ?_ ?_).mono ?_
                 · omega
                 · omega
                 · omega
                 clear hC1
                 rintro e1 w1 ⟨rfl, d1, p1, g1, T1⟩
                 have H3:Hid _:=ma (d:=d) (a:=a) (b:=b) (mid:=mid) (s:=s) (e:=e) (m:=m) HT0.out (by omega) (by omega) (by omega) (by omega) (by omega) (by omega) (by omega) HLO.out HHI.out g1
                 have HP1:Hid (PermIn a b d d1):=permIn_mono _ _ _ _ _ _ (by omega) (by omega) (by omega) p1
                 have hz1:d1.size=d0.size:=by rw [p1.1]; exact hs
                 have T1':Aside _:=T1
                 clear p1 g1 T1
                 have hC2:=fun az mz bz q1 q2 q3=>IH0.out d1 w1 az mz bz a s mid q1 q2 q3 (by omega) (by omega) (by omega) (by omega) hz1 T1'.out H3.out.1
                 clear T1'
                 go_wp2_with fail
                 refine (hC2 _ _ _ ?_ ?_ ?_).mono ?_
                 · omega
                 · omega
                 · omega
                 clear hC2
                 rintro e2 w2 ⟨rfl, d2, p2, u2, T2⟩
                 have HP2:Hid (PermIn a mid d1 d2):=p2
                 have HU2:Hid (Up wt d2 a mid):=u2
                 have hz2:d2.size=d0.size:=by rw [p2.1]; exact hz1
                 have T2':Aside _:=T2
                 clear p2 u2 T2
                 have hC3:=fun az mz bz q1 q2 q3=>IH0.out d2 w2 az mz bz mid e b q1 q2 q3 (by omega) (by omega) (by omega) (by omega) hz2 T2'.out (H3.out.2.1.after HP2.out (by omega) (by omega))
                 clear T2'
                 go_wp2_with fail
                 refine (hC3 _ _ _ ?_ ?_ ?_).mono ?_
                 · omega
                 · omega
                 · omega
                 clear hC3
                 rintro e3 w3 ⟨rfl, d3, p3, u3, T3⟩
                 have HP3:Hid (PermIn mid b d2 d3):=p3
                 have HU3:Hid (Up wt d3 mid b):=u3
                 have T3':Aside _:=T3
                 clear p3 u3 T3
                 go_wp2
                 go_end0
                 have hfin:=fM (by omega) (by omega) (by omega) HP1.out H3.out.2.2 HP2.out HU2.out HP3.out HU3.out
                 exact ⟨rfl, d3, hfin.1, hfin.2, T3'.out⟩
               · have c1:(s:Int)<(m:Int):=by omega
                 have c2:(m:Int)<(e:Int):=by omega
                 have c3:(a:Int)<(s:Int):=by omega
                 have c4:(s:Int)<(mid:Int):=by omega
                 have c5:(mid:Int)<(e:Int):=by omega
                 have c6:¬ (e:Int)<(b:Int):=by omega
                 have hC1:=fun az mz bz q1 q2 q3=>Tryz.srt_rot enc g cb blk off cap d0 d w0 wr R hs S1.out hsz az mz bz s m e q1 q2 q3 (by omega) (by omega) (by omega)
                 clear S1
                 go_wp2_with fail
                 refine (hC1 _ _ _ ?_ ?_ ?_).mono ?_
                 · omega
                 · omega
                 · omega
                 clear hC1
                 rintro e1 w1 ⟨rfl, d1, p1, g1, T1⟩
                 have H3:Hid _:=ma (d:=d) (a:=a) (b:=b) (mid:=mid) (s:=s) (e:=e) (m:=m) HT0.out (by omega) (by omega) (by omega) (by omega) (by omega) (by omega) (by omega) HLO.out HHI.out g1
                 have HP1:Hid (PermIn a b d d1):=permIn_mono _ _ _ _ _ _ (by omega) (by omega) (by omega) p1
                 have hz1:d1.size=d0.size:=by rw [p1.1]; exact hs
                 have T1':Aside _:=T1
                 clear p1 g1 T1
                 have hC2:=fun az mz bz q1 q2 q3=>IH0.out d1 w1 az mz bz a s mid q1 q2 q3 (by omega) (by omega) (by omega) (by omega) hz1 T1'.out H3.out.1
                 clear T1'
                 go_wp2_with fail
                 refine (hC2 _ _ _ ?_ ?_ ?_).mono ?_
                 · omega
                 · omega
                 · omega
                 clear hC2
                 rintro e2 w2 ⟨rfl, d2, p2, u2, T2⟩
                 have HP2:Hid (PermIn a mid d1 d2):=p2
                 have HU2:Hid (Up wt d2 a mid):=u2
                 have hz2:d2.size=d0.size:=by rw [p2.1]; exact hz1
                 have T2':Aside _:=T2
                 clear p2 u2 T2
                 have HP3:Hid (PermIn mid b d2 d2):=permIn_refl _ _ _
                 have HU3:Hid (Up wt d2 mid b):=fun i j q1 q2 q3=>(H3.out.2.1.after HP2.out (by omega) (by omega)).left i j q1 q2 (by omega)
                 go_wp2
                 go_end0
                 have hfin:=fM (by omega) (by omega) (by omega) HP1.out H3.out.2.2 HP2.out HU2.out HP3.out HU3.out
                 exact ⟨rfl, d2, hfin.1, hfin.2, T2'.out⟩
             · by_cases hb1:e<b
               · have c1:(s:Int)<(m:Int):=by omega
                 have c2:(m:Int)<(e:Int):=by omega
                 have c3:¬ (a:Int)<(s:Int):=by omega
                 have c4:(mid:Int)<(e:Int):=by omega
                 have c5:(e:Int)<(b:Int):=by omega
                 have hC1:=fun az mz bz q1 q2 q3=>Tryz.srt_rot enc g cb blk off cap d0 d w0 wr R hs S1.out hsz az mz bz s m e q1 q2 q3 (by omega) (by omega) (by omega)
                 clear S1
                 go_wp2_with fail
                 refine (hC1 _ _ _ ?_ ?_ ?_).mono ?_
                 · omega
                 · omega
                 · omega
                 clear hC1
                 rintro e1 w1 ⟨rfl, d1, p1, g1, T1⟩
                 have H3:Hid _:=ma (d:=d) (a:=a) (b:=b) (mid:=mid) (s:=s) (e:=e) (m:=m) HT0.out (by omega) (by omega) (by omega) (by omega) (by omega) (by omega) (by omega) HLO.out HHI.out g1
                 have HP1:Hid (PermIn a b d d1):=permIn_mono _ _ _ _ _ _ (by omega) (by omega) (by omega) p1
                 have hz1:d1.size=d0.size:=by rw [p1.1]; exact hs
                 have T1':Aside _:=T1
                 clear p1 g1 T1
                 have HP2:Hid (PermIn a mid d1 d1):=permIn_refl _ _ _
                 have HU2:Hid (Up wt d1 a mid):=fun i j q1 q2 q3=>H3.out.1.right i j (by omega) q2 q3
                 have hC3:=fun az mz bz q1 q2 q3=>IH0.out d1 w1 az mz bz mid e b q1 q2 q3 (by omega) (by omega) (by omega) (by omega) hz1 T1'.out (H3.out.2.1.after HP2.out (by omega) (by omega))
                 clear T1'
                 go_wp2_with fail
                 refine (hC3 _ _ _ ?_ ?_ ?_).mono ?_
                 · omega
                 · omega
                 · omega
                 clear hC3
                 rintro e3 w3 ⟨rfl, d3, p3, u3, T3⟩
                 have HP3:Hid (PermIn mid b d1 d3):=p3
                 have HU3:Hid (Up wt d3 mid b):=u3
                 have T3':Aside _:=T3
                 clear p3 u3 T3
                 go_wp2
                 go_end0
                 have hfin:=fM (by omega) (by omega) (by omega) HP1.out H3.out.2.2 HP2.out HU2.out HP3.out HU3.out
                 exact ⟨rfl, d3, hfin.1, hfin.2, T3'.out⟩
               · have c1:(s:Int)<(m:Int):=by omega
                 have c2:(m:Int)<(e:Int):=by omega
                 have c3:¬ (a:Int)<(s:Int):=by omega
                 have c4:(mid:Int)<(e:Int):=by omega
                 have c5:¬ (e:Int)<(b:Int):=by omega
                 have hC1:=fun az mz bz q1 q2 q3=>Tryz.srt_rot enc g cb blk off cap d0 d w0 wr R hs S1.out hsz az mz bz s m e q1 q2 q3 (by omega) (by omega) (by omega)
                 clear S1
                 go_wp2_with fail
                 refine (hC1 _ _ _ ?_ ?_ ?_).mono ?_
                 · omega
                 · omega
                 · omega
                 clear hC1
                 rintro e1 w1 ⟨rfl, d1, p1, g1, T1⟩
                 have H3:Hid _:=ma (d:=d) (a:=a) (b:=b) (mid:=mid) (s:=s) (e:=e) (m:=m) HT0.out (by omega) (by omega) (by omega) (by omega) (by omega) (by omega) (by omega) HLO.out HHI.out g1
                 have HP1:Hid (PermIn a b d d1):=permIn_mono _ _ _ _ _ _ (by omega) (by omega) (by omega) p1
                 have hz1:d1.size=d0.size:=by rw [p1.1]; exact hs
                 have T1':Aside _:=T1
                 clear p1 g1 T1
                 have HP2:Hid (PermIn a mid d1 d1):=permIn_refl _ _ _
                 have HU2:Hid (Up wt d1 a mid):=fun i j q1 q2 q3=>H3.out.1.right i j (by omega) q2 q3
                 have HP3:Hid (PermIn mid b d1 d1):=permIn_refl _ _ _
                 have HU3:Hid (Up wt d1 mid b):=fun i j q1 q2 q3=>(H3.out.2.1.after HP2.out (by omega) (by omega)).left i j q1 q2 (by omega)
                 go_wp2
                 go_end0
                 have hfin:=fM (by omega) (by omega) (by omega) HP1.out H3.out.2.2 HP2.out HU2.out HP3.out HU3.out
                 exact ⟨rfl, d1, hfin.1, hfin.2, T1'.out⟩

set_option maxHeartbeats 16000000 in
theorem Tryz.srt_stb (enc:Nat→Value) (wt:Nat→Int) (cf:Nat→Nat→Int) (hcf:Hid (∀ x y, cf x y=wt x-wt y)) (g:Nat) (cb:Array Value) (blk off cap:Nat) (d0:Array Nat) (w0:World) (eg:∀ args w, (callFunc g args).run Tryz.prog w = .ok (.enter g args) w) (hcmp:CmpLays1 Tryz.prog g cb enc cf blk off d0.size w0) (R:Row1 enc w0 blk off d0) (hsz:d0.size<4611686018427387904) (hsz2:d0.size<1152921504606846976) (d:Array Nat) (w:World) (hs:d.size=d0.size) (S:SW enc w0 blk off d w) (h0:∀ i j, i<j→j<d0.size→d[i]! ≤ d[j]!) :
  Calls Tryz.prog 347 #[.slice (some ⟨blk, off, none⟩) d0.size cap, .int .i64 d0.size, .func (.func g) #[] cb] w fun e w'=>e = .returned (.tuple #[])∧∃ d', PermIn 0 d0.size d d'∧Up wt d' 0 d0.size∧SW enc w0 blk off d' w':=by
 have mixed:Tryz.prog.follows Departure.mixedOrders=true:=by kernel_rfl
 have hcl0:=R.hO.cells
 simp only [Value.cells] at hcl0
 have hst:=R.hO.store Tryz.prog
 have S0:Aside (SW enc w0 blk off d w):=S
 clear S
 have HC:Aside _:=hcmp
 clear hcmp
 have H0:Hid _:=h0
 clear h0
 go_enter Tryz.func347, Tryz.ntmps347
 go_wp2
 go_loopg [7, 8] d0.size (fun kx v7 v8 wr=>∃ (a b:Nat) (dk:Array Nat), v7 = .int .i64 a∧v8 = .int .i64 b∧b≤a+20∧a+20≤b∧a≤d0.size∧d0.size-a≤kx∧dk.size=d0.size∧Aside (SW enc w0 blk off dk wr)∧Hid (20 ∣ a)∧Hid (PermIn 0 d0.size d dk)∧Hid (L1 wt d dk d0.size a))
 case atStart=>exact ⟨0, 20, d, by go_num, by go_num, by omega, by omega, by omega, by omega, hs, S0, ⟨0, rfl⟩, permIn_refl _ _ _, ET H0.out⟩
 case round =>
  clear S0
  obtain ⟨a, b, dk, rfl, rfl, hb1, hb2, han, hkx, hsk, S1, HD, HP, HL⟩:=hrel
  by_cases hbn:b≤d0.size
  · have hz1:(b:Int)≤(d0.size:Int):=by omega
    have hC:=fun az bz q1 q2=>Tryz.srt_ins enc wt cf hcf g cb blk off cap d0 dk w0 wr eg HC.out R hsk S1.out hsz az bz a b q1 q2 (by omega) hbn (DO HL.out H0.out hbn)
    clear S1
    go_wp2_with fail
    refine (hC _ _ ?_ ?_).mono ?_
    · omega
    · omega
    clear hC
    rintro e1 w1 ⟨rfl, d1, p1, u1, T1⟩
    have HL1:Hid (L1 wt d d1 d0.size b):=by
      have:=Cy HL.out HD.out (by omega) (by omega) han p1 u1
      rw [show a+20=b by omega] at this
      exact this
    have HP1:Hid (PermIn 0 d0.size d d1):=permIn_trans _ _ _ _ _ HP.out (permIn_mono _ _ _ _ _ _ (by omega) hbn (by omega) p1)
    have HD1:Hid (20 ∣ b):=by
      show _ ∣ _
      rw [show b=a+20 by omega]; exact Nat.dvd_add HD.out (Nat.dvd_refl 20)
    have hs1:d1.size=d0.size:=by rw [p1.1]; exact hsk
    have T1':Aside _:=T1
    clear p1 u1 T1 HL HP HD
    go_wp2
    go_roundg (d0.size-b)
    case measure=>omega
    case rel=>exact ⟨b, b+20, d1, by go_num, by go_num, by omega, by omega, by omega, aq _, hs1, T1', HD1, HP1, HL1⟩
  · have hz1:¬ (b:Int)≤(d0.size:Int):=by omega
    have hC:=fun az bz q1 q2=>Tryz.srt_ins enc wt cf hcf g cb blk off cap d0 dk w0 wr eg HC.out R hsk S1.out hsz az bz a d0.size q1 q2 (by omega) (aq _) (DO HL.out H0.out (aq _))
    clear S1
    go_wp2_with fail
    refine (hC _ _ ?_ ?_).mono ?_
    · omega
    · omega
    clear hC
    rintro e1 w1 ⟨rfl, d1, p1, u1, T1⟩
    have HB1:Hid (Bs wt d1 d0.size 20):=Hp (Cy HL.out HD.out (by omega) (by omega) han p1 u1) (by omega)
    have HP1:Hid (PermIn 0 d0.size d d1):=permIn_trans _ _ _ _ _ HP.out (permIn_mono _ _ _ _ _ _ (by omega) (aq _) (by omega) p1)
    have hs1:d1.size=d0.size:=by rw [p1.1]; exact hsk
    have T1':Aside _:=T1
    clear p1 u1 T1 HL HP HD
    go_wp2_with fail
    go_loopg [6] d0.size (fun kx v6 wr=>∃ (B:Nat) (dk:Array Nat), v6 = .int .i64 B∧20≤B∧d0.size-B≤kx∧B≤d0.size+d0.size+20∧dk.size=d0.size∧Aside (SW enc w0 blk off dk wr)∧Hid (PermIn 0 d0.size d dk)∧Hid (Bs wt dk d0.size B))
    case atStart=>exact ⟨20, d1, by go_num, by omega, by omega, by omega, hs1, T1', HP1, HB1⟩
    case round =>
      clear T1' HP1 HB1 hs1
      obtain ⟨B, dk, rfl, hB20, hkx2, hBn, hsk, S1, HP, HB⟩:=hrel
      by_cases hBlt:B<d0.size
      · have hz2:(B:Int)<(d0.size:Int):=by omega
        go_wp2_with fail
        go_loopg [7, 8] d0.size (fun kx v7 v8 wr=>∃ (a b:Nat) (dk:Array Nat), v7 = .int .i64 a∧v8 = .int .i64 b∧b≤a+2 * B∧a+2 * B≤b∧a≤d0.size∧d0.size-a≤kx∧dk.size=d0.size∧Aside (SW enc w0 blk off dk wr)∧Hid (2 * B ∣ a)∧Hid (PermIn 0 d0.size d dk)∧Hid (BN wt dk d0.size B a))
        case atStart=>exact ⟨0, 2 * B, dk, by go_num, by go_num, by omega, by omega, by omega, by omega, hsk, S1, ⟨0, rfl⟩, HP, BW HB.out⟩
        case round =>
         clear S1 HP HB hsk
         obtain ⟨a, b, dk, rfl, rfl, hb1, hb2, han, hkx3, hsk, S1, HD, HP, HM⟩:=hrel
         by_cases hbn:b≤d0.size
         · have hz3:(b:Int)≤(d0.size:Int):=by omega
           have hC:=fun az mz bz q1 q2 q3=>Tryz.srt_sym enc wt cf hcf g cb blk off cap d0 w0 eg HC.out R hsz (b-a) dk wr az mz bz a (a+B) b q1 q2 q3 (aq _) (by omega) (by omega) hbn hsk S1.out (Ae HM.out HD.out (by omega) (by omega))
           clear S1
           go_wp2_with fail
           refine (hC _ _ _ ?_ ?_ ?_).mono ?_
           · omega
           · omega
           · omega
           clear hC
           rintro e2 w2 ⟨rfl, d2, p2, u2, T2⟩
           have HM2:Hid (BN wt d2 d0.size B b):=by
             have:=xE HM.out HD.out (by omega) (by omega) han p2 u2
             rw [show a+2 * B=b by omega] at this
             exact this
           have HP2:Hid (PermIn 0 d0.size d d2):=permIn_trans _ _ _ _ _ HP.out (permIn_mono _ _ _ _ _ _ (by omega) hbn (by omega) p2)
           have HD2:Hid (2 * B ∣ b):=by
             show _ ∣ _
             rw [show b=a+2 * B by omega]; exact Nat.dvd_add HD.out (Nat.dvd_refl _)
           have hs2:d2.size=d0.size:=by rw [p2.1]; exact hsk
           have T2':Aside _:=T2
           clear p2 u2 T2 HM HP HD
           go_wp2
           go_roundg (d0.size-b)
           case measure=>omega
           case rel=>exact ⟨b, b+2 * B, d2, by go_num, by go_num, by omega, by omega, by omega, aq _, hs2, T2', HD2, HP2, HM2⟩
         · have hz3:¬ (b:Int)≤(d0.size:Int):=by omega
           by_cases hmn:a+B<d0.size
           · have hz4:(a:Int)+(B:Int)<(d0.size:Int):=by omega
             have hC:=fun az mz bz q1 q2 q3=>Tryz.srt_sym enc wt cf hcf g cb blk off cap d0 w0 eg HC.out R hsz (d0.size-a) dk wr az mz bz a (a+B) d0.size q1 q2 q3 (aq _) (by omega) (by omega) (aq _) hsk S1.out (Ae HM.out HD.out (by omega) (by omega))
             clear S1
             go_wp2_with fail
             refine (hC _ _ _ ?_ ?_ ?_).mono ?_
             · omega
             · omega
             · omega
             clear hC
             rintro e2 w2 ⟨rfl, d2, p2, u2, T2⟩
             have HB2:Hid (Bs wt d2 d0.size (2 * B)):=Bk (xE HM.out HD.out (by omega) (by omega) han p2 u2) (Nat.dvd_add HD.out (Nat.dvd_refl _)) (by omega)
             have HP2:Hid (PermIn 0 d0.size d d2):=permIn_trans _ _ _ _ _ HP.out (permIn_mono _ _ _ _ _ _ (by omega) (aq _) (by omega) p2)
             have hs2:d2.size=d0.size:=by rw [p2.1]; exact hsk
             have T2':Aside _:=T2
             clear p2 u2 T2 HM HP HD
             go_wp2
             go_roundg (d0.size-2 * B)
             case measure=>omega
             case rel=>exact ⟨2 * B, d2, by go_num, by omega, aq _, by omega, hs2, T2', HP2, HB2⟩
           · have hz4:¬ (a:Int)+(B:Int)<(d0.size:Int):=by omega
             have HB2:Hid (Bs wt dk d0.size (2 * B)):=Bk HM.out HD.out (by omega)
             go_wp2
             go_roundg (d0.size-2 * B)
             case measure=>omega
             case rel=>exact ⟨2 * B, dk, by go_num, by omega, aq _, by omega, hsk, S1, HP, HB2⟩
      · have hz2:¬ (B:Int)<(d0.size:Int):=by omega
        go_wp2
        go_end0
        exact ⟨rfl, dk, HP.out, fun i j q1 q2 q3=>(HB.out 0 ⟨0, rfl⟩).1 i j q1 q2 (by omega), S1.out⟩

set_option maxHeartbeats 4000000 in
theorem Tryz.srt_top (enc:Nat→Value) (wt:Nat→Int) (cf:Nat→Nat→Int) (hcf:Hid (∀ x y, cf x y=wt x-wt y)) (g:Nat) (cb:Array Value) (blk off cap:Nat) (d0:Array Nat) (w0:World) (eg:∀ args w, (callFunc g args).run Tryz.prog w = .ok (.enter g args) w) (hcmp:CmpLays1 Tryz.prog g cb enc cf blk off d0.size w0) (R:Row1 enc w0 blk off d0) (hsz:d0.size<4611686018427387904) (hsz2:d0.size<1152921504606846976) (hH:Holds enc w0 blk off d0) (h0:∀ i j, i<j→j<d0.size→d0[i]! ≤ d0[j]!) :
  Calls Tryz.prog 313 #[.slice (some ⟨blk, off, none⟩) d0.size cap, .func (.func g) #[] cb] w0 fun e w'=>e = .returned (.tuple #[])∧∃ d', PermIn 0 d0.size d0 d'∧Up wt d' 0 d0.size∧SW enc w0 blk off d' w':=by
 have hC:=Tryz.srt_stb enc wt cf hcf g cb blk off cap d0 w0 eg hcmp R hsz hsz2 d0 w0 rfl (SW.start hH) h0
 go_enter Tryz.func313, Tryz.ntmps313
 go_wp2_with fail
 refine hC.mono ?_
 clear hC
 rintro e1 w1 ⟨rfl, h⟩
 go_wp2_with fail
 go_end0
 exact ⟨rfl, h⟩

theorem Tryz.srt_weigh:CE Tryz.prog 314:=by
 intro W c p cp ws x y hc hr hx hy hm hb
 have hne:ws.map (Value.int .i64)≠[]:=by
  intro h
  rw [List.map_eq_nil_iff] at h
  subst h
  simp at hx
 obtain ⟨⟨blk, off, pth⟩, rfl, hcell⟩:=hr hne
 have cx:W.cell? ((⟨blk, off, pth⟩:Addr).add x)=some (.int .i64 (ws.getD x 0)):=hcell x _ (by simp [hx])
 have cy:W.cell? ((⟨blk, off, pth⟩:Addr).add y)=some (.int .i64 (ws.getD y 0)):=hcell y _ (by simp [hy])
 have bx:=hb (ws.getD x 0) (by simp [hx])
 have by_:=hb (ws.getD y 0) (by simp [hy])
 obtain ⟨X, hX⟩:∃ X, X=ws.getD x 0:=⟨_, rfl⟩
 obtain ⟨Y, hY⟩:∃ Y, Y=ws.getD y 0:=⟨_, rfl⟩
 rw [← hX] at cx bx ⊢
 rw [← hY] at cy by_ ⊢
 clear hX hY hcell hr hb hne
 obtain ⟨M, hM⟩:∃ M, M=ws.length:=⟨_, rfl⟩
 rw [← hM] at hc hx hy hm
 clear hM
 have px:(0:Int)≤(x:Int):=by omega
 have lx:(x:Int)<(M:Int):=by omega
 have py:(0:Int)≤(y:Int):=by omega
 have ly:(y:Int)<(M:Int):=by omega
 have tx:((x:Int)).toNat=x:=by omega
 have ty:((y:Int)).toNat=y:=by omega
 have hw:IntKind.i64.wrap (X-Y)=X-Y:=by rw [IntKind.wrap_i64]; omega
 go_enter Tryz.func314, Tryz.ntmps314
 go_wp2_with fail
 go_quiet (fail)
 go_wp2
 go_ret
 exact ⟨rfl, _, rfl⟩
theorem Tryz.sort_ok:BU Tryz.prog 313 314 3 :=
 Dq Tryz.call314 Tryz.srt_weigh fun enc wt cf hcf cb blk cap d0 w0 hcmp R hsz2 hH h0=>Tryz.srt_top enc wt cf hcf 314 cb blk 0 cap d0 w0 Tryz.call314 hcmp R (by omega) hsz2 hH h0
end Go.Proofs
