import Derived.Test.YtckpeedhchjjnaaGreatDoorProg
import Derived.Shelf.Spec.DecodeRune
import Derived.Shelf.Strings.AsciiSet
import Derived.Laws.RangeString
import Derived.Lib.RuneBytes
import Derived.Lib.IndexEntry
import Derived.Deep.LoopGhost
import Derived.KernelRfl
set_option linter.unusedVariables false
set_option linter.unusedSimpArgs false
set_option maxRecDepth 100000
namespace Go.Proofs
open Tryz
open Go.RowKit
def Tryz.lays7_ren:Go.Shelf.Ren:=⟨fun | 32=>275 | 49=>321 | n=>n, fun | 0=>0 | 3=>3 | 4=>4 | 5=>5 | 9=>9 | 21=>21 | 25=>44 | 30=>30 | 33=>239 | 66=>336 | 68=>338 | 69=>339 | n=>n, fun | 2=>2 | 3=>3 | n=>n⟩
theorem Tryz.lays7_32:Lays7.n32 Tryz.prog Tryz.lays7_ren:={
 mixed:=by kernel_rfl
 f32:=func275.trans (congrArg some (by kernel_rfl))
 f49:=func321.trans (congrArg some (by kernel_rfl))
 t0:=underlying0
 a0:=isAgg0
 z0:=sizeOf0
 v0:=zeroValue0
 i0:=by kernel_rfl
 t3:=underlying3
 a3:=isAgg3
 z3:=sizeOf3
 v3:=zeroValue3
 i3:=by kernel_rfl
 t4:=underlying4
 a4:=isAgg4
 z4:=sizeOf4
 v4:=zeroValue4
 i4:=by kernel_rfl
 t5:=underlying5
 a5:=isAgg5
 z5:=sizeOf5
 v5:=zeroValue5
 i5:=by kernel_rfl
 t21:=underlying21
 a21:=isAgg21
 z21:=sizeOf21
 v21:=zeroValue21
 i21:=by kernel_rfl
 t25:=underlying44
 a25:=isAgg44
 z25:=sizeOf44
 v25:=zeroValue44
 i25:=by kernel_rfl
 t30:=underlying30
 a30:=isAgg30
 z30:=sizeOf30
 v30:=zeroValue30
 i30:=by kernel_rfl
 t33:=underlying239
 a33:=isAgg239
 z33:=sizeOf239
 v33:=zeroValue239
 i33:=by kernel_rfl
 t66:=underlying336
 a66:=isAgg336
 z66:=sizeOf336
 t68:=underlying338
 a68:=isAgg338
 z68:=sizeOf338
 v68:=zeroValue338
 i68:=by kernel_rfl
 t69:=underlying339
 a69:=isAgg339
 z69:=sizeOf339
 v69:=zeroValue339
 i69:=by kernel_rfl
 g2:=by kernel_rfl
 g3:=by kernel_rfl }
theorem CY (s:ByteArray) (h0:0<s.size) (hb:128≤(s.get! 0).toNat):128≤(Lib.decodeGo s).1∧(Lib.decodeGo s).1<1114112∧1≤(Lib.decodeGo s).2∧(Lib.decodeGo s).2≤s.size∧(Lib.decodeGo s).2≤4∧∀ j, 0<j→j<(Lib.decodeGo s).2→128≤(s.get! j).toNat:=by
 have hne:¬ s.size=0:=by omega
 simp only [Lib.decodeGo, if_neg hne, Lib.decode_at]
 have h1:=UInt8.toNat_lt (s.get! 0)
 have g1:=UInt8.toNat_lt (s.get! 1)
 have g2:=UInt8.toNat_lt (s.get! 2)
 have g3:=UInt8.toNat_lt (s.get! 3)
 simp only [Nat.sub_zero, Nat.zero_add]
 generalize hx0:(s.get! 0).toNat=x0 at *
 generalize hx1:(s.get! 1).toNat=x1 at *
 generalize hx2:(s.get! 2).toNat=x2 at *
 generalize hx3:(s.get! 3).toNat=x3 at *
 have key:∀ (r k:Nat), 128≤r→r<1114112→1≤k→k≤s.size→k≤4→(1<k→128≤x1)→(2<k→128≤x2)→(3<k→128≤x3)→128≤(r, k).1∧(r, k).1<1114112∧1≤(r, k).2∧(r, k).2≤s.size∧(r, k).2≤4∧∀ j, 0<j→j<(r, k).2→128≤(s.get! j).toNat:=by
  intro r k a1 a2 a3 a4 a5 b1 b2 b3
  refine ⟨a1, a2, a3, a4, a5, fun j hj hk => ?_⟩
  have:j=1∨j=2∨j=3:=by simp only at hk; omega
  simp only at hk
  rcases this with rfl | rfl | rfl
  · rw [hx1]; exact b1 (by omega)
  · rw [hx2]; exact b2 (by omega)
  · rw [hx3]; exact b3 (by omega)
 unfold Lib.decodeN
 repeat' split
 all_goals first | (exfalso; omega) | (apply key <;> omega)

set_option maxHeartbeats 1000000 in
theorem Tryz.should_ascii (n:Int) (w:World):Calls Tryz.prog 272 #[.int .i64 n] w fun e w'=>e = .returned (.bool (decide (8<n)))∧w'=w:=by
 go_enter func272, Tryz.ntmps272
 go_wp2
 go_ret
 exact ⟨rfl, rfl⟩
set_option maxHeartbeats 1000000 in
theorem Tryz.ascii_has (b:Nat) (x:UInt8) (v:Bool) (w:World) (hc:w.cell? ⟨b, x.toNat, none⟩=some (.bool v)):Calls Tryz.prog 274 #[.pointer (some ⟨b, 0, none⟩), .int .u8 x.toNat] w fun e w'=>e = .returned (.bool v)∧w'=w:=by
 have hx256:(x.toNat:Int)<256:=by have:=UInt8.toNat_lt x; omega
 go_enter func274, Tryz.ntmps274
 go_wp2
 go_ret
 exact ⟨rfl, rfl⟩
theorem zW {P:Program} {T:TypeId} {x:Operand} {d:Option Nat} {ty:TypeId} {pos:String} {aft:Array Edge} {gd:Option (Nat×Bool)} {a:Act} {w:World} {c:Array Value} {n:Nat} {e:TypeId} {next:Act→World→Prop} {Q:Exit→Act→World→Prop}
  (hx:a.eval x = .pointer (some ⟨w.heap.size, 0, none⟩)) (hu:P.underlying T=some (.array n e)) (hi:(P.info? T).map (·.size)=some c.size) (h:next (a.put d (.agg c)) (w.alloc (.cells c T))) :
  Oper.wp P ⟨d, .load T x, ty, pos, aft, gd⟩ a (w.alloc (.cells c T)) next Q:=by
 unfold Oper.wp
 have hr:=run_loadAt_new (P:=P) w T c n e hu hi
 have:(execOp a.eval ⟨d, .load T x, ty, pos, aft, gd⟩).run P (w.alloc (.cells c T)) = .ok (.value (.agg c)) (w.alloc (.cells c T)):=by
  simp only [execOp, hx]
  simp [hr]
 rw [this]
 exact h
theorem Ff {P:Program} {T:TypeId} {x y:Operand} {ty:TypeId} {pos:String} {aft:Array Edge} {gd:Option (Nat×Bool)} {d:Option Nat} {a:Act} {w:World} {c c':Array Value} {next:Act→World→Prop} {Q:Exit→Act→World→Prop}
  (hx:a.eval x = .pointer (some ⟨w.heap.size, 0, none⟩)) (hy:a.eval y = .agg c') (hi:(P.info? T).map (·.size)=some c'.size) (ho:c.size=c'.size) (h1:c'.all (·.oneCell')=true) (h:next (a.put d undef) (w.alloc (.cells c' T))) :
  Oper.wp P ⟨d, .store T x y, ty, pos, aft, gd⟩ a (w.alloc (.cells c T)) next Q:=by
 unfold Oper.wp
 have hr:=run_storeAt_new (P:=P) w T c c' hi ho h1
 have:(execOp a.eval ⟨d, .store T x y, ty, pos, aft, gd⟩).run P (w.alloc (.cells c T)) = .ok .skip (w.alloc (.cells c' T)):=by
  simp only [execOp, hx, hy]
  simp [hr]
 rw [this]
 exact h
structure kS (p:Prop):Prop where
 out:p
theorem Tryz.set_zero:∀ w, (zeroValue 342).run Tryz.prog w = .ok (.agg (Array.replicate 256 (.bool false))) w:=(zero_of_info (by kernel_rfl:(Tryz.prog.info? 342).map (fun i=>(i.zero, i.size))=some (some (.agg (Array.replicate 256 (.bool false))), 256))).1
theorem Tryz.set_size:(Tryz.prog.info? 342).map (·.size)=some 256:=by kernel_rfl
set_option maxHeartbeats 4000000 in
set_option maxRecDepth 1000000 in
theorem Tryz.make_set (chars:ByteArray) (w:World) (hs:chars.size<4294967281)
  (hascii:∀ (j:Nat) b, chars.data.toList[j]? = some b→b.toNat<128) :
  Calls Tryz.prog 273 #[.string chars] w fun e w'=>e = .returned (.tuple #[.agg (Lib.setCells chars.data.toList), .bool true])∧w'=w.alloc (.cells (Lib.setCells chars.data.toList) 342):=by
 have HA:kS (∀ (j:Nat) b, chars.data.toList[j]? = some b→b.toNat<128):=⟨hascii⟩
 clear hascii
 have hv116:=Tryz.set_zero
 have hi116:=Tryz.set_size
 go_enter func273, Tryz.ntmps273
 go_wp2
 rw [← Lib.setCells_nil]
 go_loopg [4] chars.size (fun g s4 wx=>∃ i:Nat, i+g=chars.size∧s4 = .int .i64 i∧wx=w.alloc (.cells (Lib.setCells (chars.data.toList.take i)) 342))
 case atStart=>exact ⟨0, by omega, rfl, rfl⟩
 case round =>
  obtain ⟨i, hig, rfl, rfl⟩:=hrel
  cases gk with
  | zero =>
   obtain rfl:i=chars.size:=by omega
   have hiz:¬ ((chars.size:Int)<(chars.size:Int)):=by omega
   rw [show chars.data.toList.take chars.size=chars.data.toList from List.take_of_length_le (by rw [← Lib.size_eq]; exact Nat.le_refl _)]
   have hld:=run_loadVar_new (P:=Tryz.prog) w 342 (Lib.setCells chars.data.toList) 256 _ underlying342 (by rw [Lib.setCells_size]; exact hi116)
   have hsz:=Lib.setCells_size chars.data.toList
   have hlc:=run_loadCellsFrom_new (P:=Tryz.prog) w 342 (Lib.setCells chars.data.toList) 256 hsz
   have hsc:=run_storeCells_new (P:=Tryz.prog) w 342 (Lib.setCells chars.data.toList) (Lib.setCells chars.data.toList) (by rw [hsz]; exact hi116) rfl (Lib.setCells_one _)
   go_wp2
   refine zW (n:=256) (e:=_) (by rfl) underlying342 (by rw [hsz]; exact hi116) ?_
   go_wp2
   (try simp only [Exit.inBlock, Exit.then])
   refine bodyPost_ret (v := .tuple #[.agg (Lib.setCells chars.data.toList), .bool true]) ?_ rfl ⟨rfl, rfl⟩
   rw [results_cell_tmp rfl]
   simp [asAddr, Result.andThen, hld]
  | succ g =>
   have hi:i<chars.size:=by omega
   have hiz:(i:Int)<(chars.size:Int):=by omega
   obtain ⟨x, hx⟩:∃ x:UInt8, chars[i]'hi=x:=⟨_, rfl⟩
   have hxl:chars.data.toList[i]? = some x:=by rw [← hx]; exact Lib.data_getElem? chars i hi
   have hx128:¬ ((128:Int)≤(x.toNat:Int)):=by have:=HA.out i x hxl; omega
   have hx256:(x.toNat:Int)<256:=by have:=HA.out i x hxl; omega
   have hcell:=Lib.setCells_at (chars.data.toList.take i) x
   have Hx:kS (chars.data.toList[i]? = some x):=⟨hxl⟩
   clear hxl
   go_wp2
   go_roundg g
   case measure=>omega
   case rel=>exact ⟨i+1, by omega, by first | rfl | simp, by rw [List.take_add_one, Hx.out]; simp only [Option.toList]; rw [Lib.setCells_snoc]⟩
theorem Iv:(⟨#[13, 10]⟩:ByteArray).size=2:=rfl
theorem Iy (s:ByteArray) (i:Nat) (x:UInt8) (h:s.data.toList[i]? = some x):(s.get! i)=x:=by
 have hi:i<s.data.size:=by
  rw [← Array.length_toList]; exact (List.getElem?_eq_some_iff.1 h).1
 rw [Array.getElem?_toList, Array.getElem?_eq_getElem hi] at h
 show s.data[i]! = x
 rw [getElem!_pos s.data i hi]
 exact Option.some.inj h
theorem qU (s:ByteArray) (i:Nat) (h:i<s.size):s.data.toList[i]? = some (s.get! i):=by
 have hi:i<s.data.size:=h
 rw [Array.getElem?_toList, Array.getElem?_eq_getElem hi]
 show some s.data[i]=some s.data[i]!
 rw [getElem!_pos s.data i hi]
set_option maxHeartbeats 8000000 in
set_option maxRecDepth 1000000 in
theorem Tryz.idx_long (s:ByteArray) (b off c:Nat) (w:World) (hn:8<s.size) (hs:s.size<4294967281) (hb:b<w.heap.size) (hp:∀ j, j<s.size→w.cell? ⟨b, off+j, none⟩=some (.int .u8 (s.get! j).toNat)) :
  Calls Tryz.prog 224 #[.slice (some ⟨b, off, none⟩) s.size c, .string ⟨#[13, 10]⟩] w fun e w'=>e = .returned (.int .i64 (Lib.indexAny s.data.toList [13, 10]))∧w'=((w.alloc (.cells (Lib.setCells [13, 10]) 342)).alloc (.cells (Lib.setCells [13, 10]) 342)):=by
 have hM:=Tryz.make_set ⟨#[13, 10]⟩ w (by decide) (fun j b h=>by
  have:j<2:=by have:=(List.getElem?_eq_some_iff.1 h).1; simpa using this
  have:j=0∨j=1:=by omega
  rcases this with rfl | rfl <;> (simp at h; subst h; decide))
 have hM2:Calls Tryz.prog 273 #[.string ⟨#[13, 10]⟩] w fun e w'=>e = .returned (.tuple #[.agg (Lib.setCells [13, 10]), .bool true])∧w'=w.alloc (.cells (Lib.setCells [13, 10]) 342):=hM
 clear hM
 have hv116:=Tryz.set_zero
 have hi116:=Tryz.set_size
 have hsz:(Lib.setCells [13, 10]).size=256:=Lib.setCells_size _
 have hone:=Lib.setCells_one [13, 10]
 have hset:kS (∀ x:UInt8, (Lib.setCells [13, 10])[x.toNat]? = some (.bool (([13, 10]:List UInt8).contains x))):=⟨Lib.setCells_at [13, 10]⟩
 generalize Lib.setCells [13, 10]=C at *
 have hn1:((s.size:Int)==1)=false:=beq_eq_false_iff_ne.2 (by omega)
 have h8z:decide ((8:Int)<(s.size:Int))=true:=decide_eq_true (by omega)
 have HP:kS (∀ j, j<s.size→w.cell? ⟨b, off+j, none⟩=some (.int .u8 (s.get! j).toNat)):=⟨hp⟩
 clear hp
 have hsc:(storeCells ⟨w.heap.size+1, 0, none⟩ C.toList 0).run Tryz.prog ((w.alloc (.cells C 342)).alloc (.cells (Array.replicate 256 (.bool false)) 342)) = .ok () ((w.alloc (.cells C 342)).alloc (.cells C 342)):=by
  have:=run_storeCells_new (P:=Tryz.prog) (w.alloc (.cells C 342)) 342 (Array.replicate 256 (.bool false)) C (by rw [hsz]; exact hi116) (by rw [hsz, Array.size_replicate]) hone
  simpa using this
 have HC:kS (∀ x:UInt8, ((w.alloc (.cells C 342)).alloc (.cells C 342)).cell? ⟨w.heap.size+1, x.toNat, none⟩=some (.bool (([13, 10]:List UInt8).contains x))):=⟨fun x=>by
  rw [World.cell?_alloc_at _ _ _ _ (by simp), hset.out]⟩
 have HP2:kS (∀ j, j<s.size→((w.alloc (.cells C 342)).alloc (.cells C 342)).cell? ⟨b, off+j, none⟩=some (.int .u8 (s.get! j).toNat)):=⟨fun j hj=>by
  rw [World.cell?_of_block (w:=w)]
  · exact HP.out j hj
  · simp only [World.alloc]
    rw [Array.getElem?_push, if_neg (by rw [Array.size_push]; omega), Array.getElem?_push, if_neg (by omega)]⟩
 clear hset HP
 go_enter func224, Tryz.ntmps224
 go_wp2_with fail
 refine (Tryz.should_ascii _ _).mono ?_
 rintro e w1 ⟨rfl, hw⟩
 rw [hw, h8z]
 clear hw
 go_wp2_with fail
 refine hM2.mono ?_
 rintro e w2 ⟨rfl, hw⟩
 rw [hw]
 clear hw hM2
 go_wp2_with fail
 clear hsc
 generalize hW:(w.alloc (.cells C 342)).alloc (.cells C 342)=W at *
 go_loopg [62] s.size (fun g s62 wx=>∃ i:Nat, i+g=s.size∧s62 = .int .i64 i∧wx=W∧Lib.NoAny s.data.toList [13, 10] i)
 case atStart=>exact ⟨0, by omega, rfl, rfl, Lib.NoAny.zero _ _⟩
 case round =>
  obtain ⟨i, hig, rfl, rfl, hno⟩:=hrel
  have HN:kS (Lib.NoAny s.data.toList [13, 10] i):=⟨hno⟩
  clear hno
  cases gk with
  | zero =>
    obtain rfl:i=s.size:=by omega
    have hiz:¬ ((s.size:Int)<(s.size:Int)):=by omega
    go_wp2_with fail
    go_ret
    exact ⟨by rw [Lib.indexAny_none (by rw [← Lib.size_eq]; exact HN.out)]; rfl, by first | rfl | exact hW.symm⟩
  | succ g =>
    have hi:i<s.size:=by omega
    have hiz:(i:Int)<(s.size:Int):=by omega
    have Hx:kS (s.data.toList[i]? = some (s.get! i)):=⟨qU s i hi⟩
    have hcell:=HP2.out i hi
    have hcx:=HC.out (s.get! i)
    generalize s.get! i=x at *
    cases hin:([13, 10]:List UInt8).contains x <;> rw [hin] at hcx
    · go_wp2_with fail
      refine (Tryz.ascii_has _ x _ _ hcx).mono ?_
      rintro e w3 ⟨rfl, hw⟩
      rw [hw]
      go_wp2_with fail
      go_roundg g
      case measure=>omega
      case rel=>exact ⟨i+1, by omega, by first | rfl | simp, rfl, HN.out.succ Hx.out hin⟩
    · go_wp2_with fail
      refine (Tryz.ascii_has _ x _ _ hcx).mono ?_
      rintro e w3 ⟨rfl, hw⟩
      rw [hw]
      go_wp2_with fail
      go_ret
      exact ⟨by rw [Lib.indexAny_hit HN.out Hx.out hin]; rfl, by first | rfl | exact hW.symm⟩
theorem GQ (r:Nat) (h:128≤r) (hr:r<1114112):([13, 10]==(Utf8.encode (r:Int)).toList)=false:=by
 refine beq_eq_false_iff_ne.2 fun e => ?_
 have e0:((Utf8.encode (r:Int)).toList)[0]? = some 13:=by rw [← e]; rfl
 rw [Lib.toList_data] at e0
 unfold Utf8.encode at e0
 simp only at e0
 have hc:128≤(if Utf8.valid (r:Int)=true then (r:Int).toNat else Utf8.runeError)∧(if Utf8.valid (r:Int)=true then (r:Int).toNat else Utf8.runeError)<1114112:=by
   split
   · omega
   · decide
 generalize (if Utf8.valid (r:Int)=true then (r:Int).toNat else Utf8.runeError)=c at *
 rw [if_neg (by omega)] at e0
 split at e0
 · simp at e0
   have:=congrArg UInt8.toNat e0
   simp [UInt8.toNat_ofNat'] at this
   omega
 · split at e0
   · simp at e0
     have:=congrArg UInt8.toNat e0
     simp [UInt8.toNat_ofNat'] at this
     omega
   · simp at e0
     have:=congrArg UInt8.toNat e0
     simp [UInt8.toNat_ofNat'] at this
     omega
theorem xC (r:Nat) (h:2048≤r) (h2:r<65536):(Utf8.encode (r:Int)).size=3:=by
 have hc:2048≤(if Utf8.valid (r:Int)=true then (r:Int).toNat else Utf8.runeError)∧(if Utf8.valid (r:Int)=true then (r:Int).toNat else Utf8.runeError)<65536:=by
  split
  · omega
  · decide
 unfold Utf8.encode
 simp only
 generalize (if Utf8.valid (r:Int)=true then (r:Int).toNat else Utf8.runeError)=c at *
 rw [if_neg (by omega), if_neg (by omega), if_pos (by omega)]
 rfl
theorem Dm (r:Nat) (h:65536≤r):3≤(Utf8.encode (r:Int)).size∧(Utf8.encode (r:Int)).size≤4:=by
 have hc:2048≤(if Utf8.valid (r:Int)=true then (r:Int).toNat else Utf8.runeError):=by
   split
   · omega
   · decide
 unfold Utf8.encode
 simp only
 generalize (if Utf8.valid (r:Int)=true then (r:Int).toNat else Utf8.runeError)=c at *
 rw [if_neg (by omega), if_neg (by omega)]
 split
 · exact ⟨Nat.le_refl 3, by show 3≤4; decide⟩
 · exact ⟨by show 3≤4; decide, Nat.le_refl 4⟩
theorem xW (t:ByteArray) (h:3≤t.size):Lib.index (⟨#[13, 10]⟩:ByteArray).data.toList t.data.toList = -1:=by
 have hl:3≤t.data.toList.length:=by rw [← Lib.size_eq]; exact h
 refine Lib.index_none fun j _ => ?_
 cases ho:Lib.occAt (⟨#[13, 10]⟩:ByteArray).data.toList t.data.toList j with
 | false=>rfl
 | true =>
  exfalso
  rcases Lib.occAt_room ho with h1 | h1
  · have:(⟨#[13, 10]⟩:ByteArray).data.toList.length=2:=rfl
    omega
  · rw [h1] at hl; simp at hl
set_option maxHeartbeats 4000000 in
set_option maxRecDepth 1000000 in
theorem Tryz.idx_one (s:ByteArray) (b off c:Nat) (w:World) (hn:s.size=1) (hp:w.cell? ⟨b, off, none⟩=some (.int .u8 (s.get! 0).toNat)) :
   Calls Tryz.prog 224 #[.slice (some ⟨b, off, none⟩) s.size c, .string ⟨#[13, 10]⟩] w fun e w'=>e = .returned (.int .i64 (Lib.indexAny s.data.toList [13, 10]))∧Below w.heap.size w w':=by
 have hlist:s.data.toList=[s.get! 0]:=by
   have h0:=qU s 0 (by omega)
   have hl:s.data.toList.length=1:=by rw [← Lib.size_eq]; exact hn
   cases h:s.data.toList with
   | nil=>rw [h] at hl; simp at hl
   | cons a t =>
     rw [h] at hl h0
     simp at hl h0
     rw [hl, h0]
 rw [hlist, hn]
 generalize s.get! 0=x at *
 have hx:=UInt8.toNat_lt x
 by_cases h128:128≤x.toNat
 · have hz:(128:Int)≤(x.toNat:Int):=by omega
   have hr:Lib.indexAny [x] [13, 10] = -1:=by
     have:([13, 10]:List UInt8).contains x=false:=by
       rw [List.contains_eq_mem]
       refine decide_eq_false fun h => ?_
       simp only [List.mem_cons, List.not_mem_nil, or_false] at h
       rcases h with rfl | rfl <;> exact absurd h128 (by decide)
     simp only [Lib.indexAny, this]; rfl
   rw [hr]
   go_enter func224, Tryz.ntmps224
   go_wp2_with fail
   go_loopg [] 2 (fun g wx=>∃ i:Nat, i+g=2∧wx=w.iter ⟨#[13, 10]⟩ i)
   case atStart=>exact ⟨0, by omega, rfl⟩
   case round =>
     obtain ⟨i, hig, rfl⟩:=hrel
     cases gk with
     | zero =>
       obtain rfl:i=2:=by omega
       have hnx:=run_next_end (P:=Tryz.prog) w ⟨#[13, 10]⟩ 2
       go_wp2_with fail
       go_ret
       exact ⟨rfl, (Below.refl _ _).alloc (Nat.le_refl _) _⟩
     | succ g =>
       have hi2:i=0∨i=1:=by omega
       rcases hi2 with rfl | rfl
       · have hnx:=fun ty=>run_next_ascii (P:=Tryz.prog) w ⟨#[13, 10]⟩ 0 ty (by decide) (by decide)
         go_wp2_with fail
         go_roundg g
         case measure=>omega
         case rel=>exact ⟨1, by omega, rfl⟩
       · have hnx:=fun ty=>run_next_ascii (P:=Tryz.prog) w ⟨#[13, 10]⟩ 1 ty (by decide) (by decide)
         go_wp2_with fail
         go_roundg g
         case measure=>omega
         case rel=>exact ⟨2, by omega, rfl⟩
 · have hz:¬ (128:Int)≤(x.toNat:Int):=by omega
   have hcon:=Lib.contains_iff_indexByte [13, 10] x
   have hback:((x.toNat:Int)).toNat.toUInt8=x:=by simp
   go_enter func224, Tryz.ntmps224
   cases hin:([13, 10]:List UInt8).contains x
   · rw [hin] at hcon
     have hlt:¬ ((0:Int)≤Lib.indexByte [13, 10] x):=of_decide_eq_false hcon.symm
     have hr:Lib.indexAny [x] [13, 10] = -1:=by simp only [Lib.indexAny, hin]; rfl
     rw [hr]
     go_wp2_with fail
     rw [run_callFunc_extern func270 (by kernel_rfl) (by kernel_rfl) (by kernel_rfl) (e:=Extern.BytealgIndexByte.indexByte) (by kernel_rfl), Lib.run_indexByteString, hback]
     simp only [Result.andThen]
     rw [Oper.upon_value]
     go_wp2_with fail
     go_ret
     exact ⟨rfl, Below.refl _ _⟩
   · have hr:Lib.indexAny [x] [13, 10]=0:=by simp only [Lib.indexAny, hin]; rfl
     rw [hr]
     have hx2:x=13∨x=10:=by simpa using hin
     clear hcon hback hin hr hlist hx h128
     have e13:((13:UInt8).toNat:Int)=13:=rfl
     have e10:((10:UInt8).toNat:Int)=10:=rfl
     rcases hx2 with rfl | rfl
     · rw [e13] at hp hz
       go_wp2_with fail
       rw [run_callFunc_extern func270 (by kernel_rfl) (by kernel_rfl) (by kernel_rfl) (e:=Extern.BytealgIndexByte.indexByte) (by kernel_rfl), Lib.run_indexByteString]
       simp only [Result.andThen]
       rw [Oper.upon_value, show Lib.indexByte (⟨#[13, 10]⟩:ByteArray).data.toList (13:Int).toNat.toUInt8=0 from rfl]
       go_wp2_with fail
       go_ret
       exact ⟨rfl, Below.refl _ _⟩
     · rw [e10] at hp hz
       go_wp2_with fail
       rw [run_callFunc_extern func270 (by kernel_rfl) (by kernel_rfl) (by kernel_rfl) (e:=Extern.BytealgIndexByte.indexByte) (by kernel_rfl), Lib.run_indexByteString]
       simp only [Result.andThen]
       rw [Oper.upon_value, show Lib.indexByte (⟨#[13, 10]⟩:ByteArray).data.toList (10:Int).toNat.toUInt8=1 from rfl]
       go_wp2_with fail
       go_ret
       exact ⟨rfl, Below.refl _ _⟩
theorem ES (s:ByteArray) (h0:0<s.size) (hb:128≤(s.get! 0).toNat):(Lib.decodeGo s).1=65533∨((Lib.decodeGo s).2=2∧(Lib.decodeGo s).1<2048)∨((Lib.decodeGo s).2=3∧2048≤(Lib.decodeGo s).1∧(Lib.decodeGo s).1<65536∧((Lib.decodeGo s).1<55296∨57344≤(Lib.decodeGo s).1))∨((Lib.decodeGo s).2=4∧65536≤(Lib.decodeGo s).1):=by
 have hne:¬ s.size=0:=by omega
 simp only [Lib.decodeGo, if_neg hne, Lib.decode_at]
 have h1:=UInt8.toNat_lt (s.get! 0)
 simp only [Nat.sub_zero, Nat.zero_add]
 generalize hx0:(s.get! 0).toNat=x0 at *
 generalize hx1:(s.get! 1).toNat=x1 at *
 generalize hx2:(s.get! 2).toNat=x2 at *
 generalize hx3:(s.get! 3).toNat=x3 at *
 unfold Lib.decodeN
 repeat' split
 all_goals first | exact .inl rfl | exact .inr (.inl ⟨rfl, by show _<2048; omega⟩) | exact .inr (.inr (.inl ⟨rfl, by show 2048≤_; omega, by show _<65536; omega, by show _∨_; simp only; omega⟩)) | exact .inr (.inr (.inr ⟨rfl, by show 65536≤_; omega⟩)) | (exfalso; omega)
theorem ED (x:UInt8) (h:([13, 10]:List UInt8).contains x=true):x=13∨x=10:=by simpa using h
theorem Gf (x:UInt8) (h:128≤x.toNat):([13, 10]:List UInt8).contains x=false:=by
 rw [List.contains_eq_mem]
 refine decide_eq_false fun h2 => ?_
 simp only [List.mem_cons, List.not_mem_nil, or_false] at h2
 rcases h2 with rfl | rfl <;> exact absurd h (by decide)
theorem Dt {l:List UInt8} {i k:Nat} (h:Lib.NoAny l [13, 10] i) (hk:∀ j, i≤j→j<i+k→∀ x, l[j]? = some x→128≤x.toNat):Lib.NoAny l [13, 10] (i+k):=by
 intro j b hj hb
 by_cases h1:j<i
 · exact h j b h1 hb
 · exact Gf b (hk j (by omega) hj b hb)
theorem Bv {g1 g2:Nat} {w w':World} (h:Lib.Utf8Tabs g1 g2 w) (hb:Below w.heap.size w w') (hg:g1<w.heap.size∧g2<w.heap.size):Lib.Utf8Tabs g1 g2 w':=by
 unfold Lib.Utf8Tabs at *
 exact ⟨fun i hi=>by rw [hb.cell (by exact hg.1)]; exact h.1 i hi, fun i hi=>⟨by rw [hb.cell (by exact hg.2)]; exact (h.2 i hi).1, by rw [hb.cell (by exact hg.2)]; exact (h.2 i hi).2⟩⟩
set_option maxHeartbeats 8000000 in
set_option maxRecDepth 1000000 in
theorem Tryz.idx_short (s:ByteArray) (b off c:Nat) (w:World) (m:Int) (hn:s.size≤8) (hn1:s.size≠1) (hnc:s.size≤c) (hb:b<w.heap.size) (hm:w.cell? ⟨0, 0, none⟩=some (.int .i64 m)) (hmb:0<w.heap.size) (hT:Lib.Utf8Tabs 2 3 w) (HG:2<w.heap.size∧3<w.heap.size) (hp:∀ j, j<s.size→w.cell? ⟨b, off+j, none⟩=some (.int .u8 (s.get! j).toNat)) :
  Calls Tryz.prog 224 #[.slice (some ⟨b, off, none⟩) s.size c, .string ⟨#[13, 10]⟩] w fun e w'=>e = .returned (.int .i64 (Lib.indexAny s.data.toList [13, 10]))∧Below w.heap.size w w':=by
 have h1z:((s.size:Int)==1)=false:=beq_eq_false_iff_ne.2 (by omega)
 have h8z:decide ((8:Int)<(s.size:Int))=false:=decide_eq_false (by omega)
 have HP:kS (∀ j, j<s.size→w.cell? ⟨b, off+j, none⟩=some (.int .u8 (s.get! j).toNat)):=⟨hp⟩
 have HT:kS (Lib.Utf8Tabs 2 3 w):=⟨hT⟩
 have HM:kS (w.cell? ⟨0, 0, none⟩=some (.int .i64 m)):=⟨hm⟩
 clear hp hT hm
 have hex:∀ i j, i+j<s.size→(s.extract i s.size).get! j=s.get! (i+j):=fun i j h=>by
  have h1:j<(s.extract i s.size).size:=by rw [ByteArray.size_extract]; omega
  have h2:=qU (s.extract i s.size) j h1
  have h3:=qU s (i+j) h
  have e:(s.extract i s.size).data.toList=(s.data.toList.take s.size).drop i:=by rw [ByteArray.data_extract]; simp [List.drop_take]
  rw [e, List.getElem?_drop, List.getElem?_take, if_pos h, h3] at h2
  exact (Option.some.inj h2).symm
 have HE:kS (∀ i j, i+j<s.size→(s.extract i s.size).get! j=s.get! (i+j)):=⟨hex⟩
 clear hex
 go_enter func224, Tryz.ntmps224
 go_wp2_with fail
 refine (Tryz.should_ascii _ _).mono ?_
 rintro e w1 ⟨rfl, hw⟩
 rw [hw, h8z]
 clear hw
 go_wp2_with fail
 go_loopg [11, 12] s.size (fun g s11 s12 wx=>∃ i k:Nat, i+g=s.size∧s12 = .int .i64 i∧s11 = .int .i64 k∧Below w.heap.size w wx∧Lib.NoAny s.data.toList [13, 10] i)
 case atStart=>exact ⟨0, 0, by omega, rfl, rfl, Below.refl _ _, Lib.NoAny.zero _ _⟩
 case round =>
  obtain ⟨i, k, hig, rfl, rfl, hbel, hno⟩:=hrel
  have HN:kS (Lib.NoAny s.data.toList [13, 10] i):=⟨hno⟩
  clear hno
  cases gk with
  | zero =>
   obtain rfl:i=s.size:=by omega
   have hiz:¬ ((s.size:Int)<(s.size:Int)):=by omega
   go_wp2_with fail
   go_ret
   exact ⟨by rw [Lib.indexAny_none (by rw [← Lib.size_eq]; exact HN.out)]; rfl, hbel⟩
  | succ g =>
   have hi:i<s.size:=by omega
   have hiz:(i:Int)<(s.size:Int):=by omega
   have Hx:kS (s.data.toList[i]? = some (s.get! i)):=⟨qU s i hi⟩
   have hcell:wr.cell? ⟨b, off+i, none⟩=some (.int .u8 (s.get! i).toNat):=by
     rw [hbel.cell (by exact hb)]; exact HP.out i hi
   have hx256:=UInt8.toNat_lt (s.get! i)
   by_cases h128:(s.get! i).toNat<128
   · have hlt:((s.get! i).toNat:Int)<128:=by omega
     have hback:(((s.get! i).toNat:Nat):Int).toNat.toUInt8=s.get! i:=by simp
     cases hin:([13, 10]:List UInt8).contains (s.get! i)
     · have hcon:=Lib.contains_iff_indexByte [13, 10] (s.get! i)
       rw [hin] at hcon
       have hneg:¬ ((0:Int)≤Lib.indexByte [13, 10] (s.get! i)):=of_decide_eq_false hcon.symm
       have hno2:=HN.out.succ Hx.out hin
       clear hcon hin
       generalize s.get! i=x at *
       go_wp2_with fail
       rw [run_callFunc_extern func270 (by kernel_rfl) (by kernel_rfl) (by kernel_rfl) (e:=Extern.BytealgIndexByte.indexByte) (by kernel_rfl), Lib.run_indexByteString, hback]
       simp only [Result.andThen]
       rw [Oper.upon_value]
       go_wp2_with fail
       go_roundg g
       case measure=>omega
       case rel=>exact ⟨i+1, 1, by omega, by first | rfl | simp, rfl, hbel, hno2⟩
     · have hres:Lib.indexAny s.data.toList [13, 10]=i:=Lib.indexAny_hit HN.out Hx.out hin
       have hx2:=ED _ hin
       clear hin hback
       generalize s.get! i=x at *
       have e13:((13:UInt8).toNat:Int)=13:=rfl
       have e10:((10:UInt8).toNat:Int)=10:=rfl
       rcases hx2 with rfl | rfl
       · rw [e13] at hcell hlt
         go_wp2_with fail
         rw [run_callFunc_extern func270 (by kernel_rfl) (by kernel_rfl) (by kernel_rfl) (e:=Extern.BytealgIndexByte.indexByte) (by kernel_rfl), Lib.run_indexByteString]
         simp only [Result.andThen]
         rw [Oper.upon_value, show Lib.indexByte (⟨#[13, 10]⟩:ByteArray).data.toList (13:Int).toNat.toUInt8=0 from rfl]
         go_wp2_with fail
         go_ret
         exact ⟨by rw [hres]; rfl, hbel⟩
       · rw [e10] at hcell hlt
         go_wp2_with fail
         rw [run_callFunc_extern func270 (by kernel_rfl) (by kernel_rfl) (by kernel_rfl) (e:=Extern.BytealgIndexByte.indexByte) (by kernel_rfl), Lib.run_indexByteString]
         simp only [Result.andThen]
         rw [Oper.upon_value, show Lib.indexByte (⟨#[13, 10]⟩:ByteArray).data.toList (10:Int).toNat.toUInt8=1 from rfl]
         go_wp2_with fail
         go_ret
         exact ⟨by rw [hres]; rfl, hbel⟩
   · have hge:¬ ((s.get! i).toNat:Int)<128:=by omega
     have hci:i<c:=by omega
     have hci2:(i:Int)<(c:Int):=by omega
     have hci3:¬ c-i=0:=by omega
     have hci4:¬ c=i:=by omega
     have hci5:¬ c≤i:=by omega
     obtain ⟨z, hz⟩:∃ z, z=s.extract i s.size:=⟨_, rfl⟩
     have hzs:z.size=s.size-i:=by rw [hz, ByteArray.size_extract]; omega
     have hz0:128≤(z.get! 0).toNat:=by rw [hz, HE.out i 0 (by omega)]; simp only [Nat.add_zero]; omega
     have hf:=CY z (by omega) hz0
     have hmore:=ES z (by omega) hz0
     have hT':Lib.Utf8Tabs 2 3 wr:=Bv HT.out hbel HG
     have cD:=Any7.utf8_DecodeRune Tryz.lays7_32 z b (off+i) (c-i) wr hT' (fun j hj=>by
       rw [hbel.cell (by exact hb), hz, HE.out i j (by omega), Nat.add_assoc]
       exact HP.out (i+j) (by omega))
     rw [hzs] at cD
     have hfar:Lib.NoAny s.data.toList [13, 10] (i+(Lib.decodeGo z).2):=Dt HN.out fun j h1 h2 x hx=>by
       by_cases hji:j=i
       · subst hji
         rw [Hx.out] at hx
         rw [← Option.some.inj hx]; omega
       · have hk4:=hf.2.2.2.1
         rw [hzs] at hk4
         have:=hf.2.2.2.2.2 (j-i) (by omega) (by omega)
         have e1:z.get! (j-i)=s.get! j:=by rw [hz, HE.out i (j-i) (by omega), show i+(j-i)=j by omega]
         rw [e1] at this
         rw [qU s j (by omega)] at hx
         rw [← Option.some.inj hx]; exact this
     skip
     generalize Lib.decodeGo z=D at hf hmore hfar cD
     obtain ⟨r, kw⟩:=D
     simp only at hf hmore hfar cD
     have HF:kS (128≤r∧r<1114112∧1≤kw∧kw≤s.size-i):=⟨⟨hf.1, hf.2.1, hf.2.2.1, by have:=hf.2.2.2.1; rw [hzs] at this; exact this⟩⟩
     have HR:kS (r=65533∨(kw=2∧r<2048)∨(kw=3∧2048≤r∧r<65536∧(r<55296∨57344≤r))∨(kw=4∧65536≤r)):=⟨hmore⟩
     have HN2:kS (Lib.NoAny s.data.toList [13, 10] (i+kw)):=⟨hfar⟩
     have HD:kS (Calls Tryz.prog 275 #[.slice (some ⟨b, off+i, none⟩) ((s.size-i:Nat):Nat) (c-i)] wr fun e w'=>e = .returned (.tuple #[.int .i32 r, .int .i64 kw])∧Below wr.heap.size wr w'):=⟨cD⟩
     clear hf hmore hfar cD hT' hz0 hzs hz HN Hx h128
     clear z
     generalize s.get! i=x at *
     go_wp2_with fail
     refine HD.out.mono ?_
     rintro e w2 ⟨rfl, hbel2⟩
     have hbel3:Below w.heap.size w w2:=hbel.trans (hbel2.mono hbel.size)
     clear hbel2 HD hcell
     have HB3:kS (Below w.heap.size w w2):=⟨hbel3⟩
     by_cases h655:r=65533
     · subst h655
       have hkl:=HF.out.2.2.2
       have hk1:=HF.out.2.2.1
       clear HF HR HM HT HE HP
       go_wp2_with fail
       go_loopg [] 2 (fun g wx=>∃ q:Nat, q+g=2∧wx=w2.iter ⟨#[13, 10]⟩ q)
       case atStart=>exact ⟨0, by omega, rfl⟩
       case round =>
         obtain ⟨q, hqg, rfl⟩:=hrel
         cases gk with
         | zero =>
           obtain rfl:q=2:=by omega
           have hnx:=run_next_end (P:=Tryz.prog) w2 ⟨#[13, 10]⟩ 2
           go_wp2_with fail
           go_roundg (s.size-(i+kw))
           case measure=>omega
           case rel=>exact ⟨i+kw, kw, by omega, by first | rfl | simp, rfl, HB3.out.alloc (HB3.out.size) _, HN2.out⟩
         | succ g2 =>
           have hi2:q=0∨q=1:=by omega
           rcases hi2 with rfl | rfl
           · have hnx:∀ ty, (Instr.next (.pointer (some ⟨w2.heap.size, 0, none⟩)) true ty).run Tryz.prog (w2.iter ⟨#[13, 10]⟩ 0) = .ok (.tuple #[.bool true, .int .i64 0, .int .i32 13]) (w2.iter ⟨#[13, 10]⟩ 1):=fun ty=>run_next_ascii (P:=Tryz.prog) w2 ⟨#[13, 10]⟩ 0 ty (by decide) (by decide)
             go_wp2_with fail
             go_roundg g2
             case measure=>omega
             case rel=>exact ⟨1, by omega, rfl⟩
           · have hnx:∀ ty, (Instr.next (.pointer (some ⟨w2.heap.size, 0, none⟩)) true ty).run Tryz.prog (w2.iter ⟨#[13, 10]⟩ 1) = .ok (.tuple #[.bool true, .int .i64 1, .int .i32 10]) (w2.iter ⟨#[13, 10]⟩ 2):=fun ty=>run_next_ascii (P:=Tryz.prog) w2 ⟨#[13, 10]⟩ 1 ty (by decide) (by decide)
             go_wp2_with fail
             go_roundg g2
             case measure=>omega
             case rel=>exact ⟨2, by omega, rfl⟩
     · have hr655:((r:Int)==65533)=false:=beq_eq_false_iff_ne.2 (by omega)
       have hm2:w2.cell? ⟨0, 0, none⟩=some (.int .i64 m):=by rw [hbel3.cell (by exact hmb)]; exact HM.out
       clear hbel3
       have hkl:=HF.out.2.2.2
       have hrr:128≤r∧r<1114112:=⟨HF.out.1, HF.out.2.1⟩
       have HC:kS (128≤r):=⟨hrr.1⟩
       have henc:=GQ r hrr.1 hrr.2
       rcases HR.out with h | ⟨rfl, hr⟩ | ⟨rfl, hr⟩ | ⟨rfl, hr⟩
       · exact absurd h h655
       · clear HF HR hm2 hrr hr h655 HM HT HE HP
         go_wp2_with fail
         go_roundg (s.size-(i+2))
         case measure=>omega
         case rel=>exact ⟨i+2, 2, by omega, by first | rfl | simp, rfl, HB3.out, HN2.out⟩
       · have hes:kS (3≤(Utf8.encode (r:Int)).size∧(Utf8.encode (r:Int)).size≤3):=⟨⟨by rw [xC r hr.1 hr.2.1]; decide, by rw [xC r hr.1 hr.2.1]; decide⟩⟩
         have HM2:kS (w2.cell? ⟨0, 0, none⟩=some (.int .i64 m)):=⟨hm2⟩
         clear HF HR hrr hr h655 HM HT HE HP
         by_cases hmk:(3:Int)≤m
         · go_wp2_with fail
           rw [run_callFunc_extern func268 (by kernel_rfl) (by kernel_rfl) (by kernel_rfl) (e:=Extern.BytealgIndex.index) (by kernel_rfl), Lib.run_indexString _ _ _ 0 m (by kernel_rfl) HM2.out (by have:=hes.out; omega) (by have:=hes.out; omega) (by decide), xW _ hes.out.1]
           simp only [Result.andThen]
           rw [Oper.upon_value]
           clear henc hmk
           go_wp2_with fail
           go_roundg (s.size-(i+3))
           case measure=>omega
           case rel=>exact ⟨i+3, 3, by omega, by first | rfl | simp, rfl, HB3.out, HN2.out⟩
         · clear henc
           go_wp2_with fail
           clear hm2 hmk
           have hr13:¬ (r:Int)=13:=by have:=HC.out; omega
           have hr10:¬ (r:Int)=10:=by have:=HC.out; omega
           have hq13:¬ r=13:=by have:=HC.out; omega
           have hq10:¬ r=10:=by have:=HC.out; omega
           have hp13:((r:Int)==13)=false:=beq_eq_false_iff_ne.2 hr13
           have hp10:((r:Int)==10)=false:=beq_eq_false_iff_ne.2 hr10
           go_loopg [] 2 (fun g wx=>∃ q:Nat, q+g=2∧wx=w2.iter ⟨#[13, 10]⟩ q)
           case atStart=>exact ⟨0, by omega, rfl⟩
           case round =>
             obtain ⟨q, hqg, rfl⟩:=hrel
             cases gk with
             | zero =>
              obtain rfl:q=2:=by omega
              have hnx:=run_next_end (P:=Tryz.prog) w2 ⟨#[13, 10]⟩ 2
              go_wp2_with fail
              go_roundg (s.size-(i+3))
              case measure=>omega
              case rel=>exact ⟨i+3, 3, by omega, by first | rfl | simp, rfl, HB3.out.alloc (HB3.out.size) _, HN2.out⟩
             | succ g2 =>
              have hi2:q=0∨q=1:=by omega
              rcases hi2 with rfl | rfl
              · have hnx:∀ ty, (Instr.next (.pointer (some ⟨w2.heap.size, 0, none⟩)) true ty).run Tryz.prog (w2.iter ⟨#[13, 10]⟩ 0) = .ok (.tuple #[.bool true, .int .i64 0, .int .i32 13]) (w2.iter ⟨#[13, 10]⟩ 1):=fun ty=>run_next_ascii (P:=Tryz.prog) w2 ⟨#[13, 10]⟩ 0 ty (by decide) (by decide)
                go_wp2_with fail
                go_roundg g2
                case measure=>omega
                case rel=>exact ⟨1, by omega, rfl⟩
              · have hnx:∀ ty, (Instr.next (.pointer (some ⟨w2.heap.size, 0, none⟩)) true ty).run Tryz.prog (w2.iter ⟨#[13, 10]⟩ 1) = .ok (.tuple #[.bool true, .int .i64 1, .int .i32 10]) (w2.iter ⟨#[13, 10]⟩ 2):=fun ty=>run_next_ascii (P:=Tryz.prog) w2 ⟨#[13, 10]⟩ 1 ty (by decide) (by decide)
                go_wp2_with fail
                go_roundg g2
                case measure=>omega
                case rel=>exact ⟨2, by omega, rfl⟩
       · have hes:kS (3≤(Utf8.encode (r:Int)).size∧(Utf8.encode (r:Int)).size≤4):=⟨Dm r hr⟩
         have HM2:kS (w2.cell? ⟨0, 0, none⟩=some (.int .i64 m)):=⟨hm2⟩
         clear HF HR hrr hr h655 HM HT HE HP
         by_cases hmk:(4:Int)≤m
         · go_wp2_with fail
           rw [run_callFunc_extern func268 (by kernel_rfl) (by kernel_rfl) (by kernel_rfl) (e:=Extern.BytealgIndex.index) (by kernel_rfl), Lib.run_indexString _ _ _ 0 m (by kernel_rfl) HM2.out (by have:=hes.out; omega) (by have:=hes.out; omega) (by decide), xW _ hes.out.1]
           simp only [Result.andThen]
           rw [Oper.upon_value]
           clear henc hmk
           go_wp2_with fail
           go_roundg (s.size-(i+4))
           case measure=>omega
           case rel=>exact ⟨i+4, 4, by omega, by first | rfl | simp, rfl, HB3.out, HN2.out⟩
         · clear henc
           go_wp2_with fail
           clear hm2 hmk
           have hr13:¬ (r:Int)=13:=by have:=HC.out; omega
           have hr10:¬ (r:Int)=10:=by have:=HC.out; omega
           have hq13:¬ r=13:=by have:=HC.out; omega
           have hq10:¬ r=10:=by have:=HC.out; omega
           have hp13:((r:Int)==13)=false:=beq_eq_false_iff_ne.2 hr13
           have hp10:((r:Int)==10)=false:=beq_eq_false_iff_ne.2 hr10
           go_loopg [] 2 (fun g wx=>∃ q:Nat, q+g=2∧wx=w2.iter ⟨#[13, 10]⟩ q)
           case atStart=>exact ⟨0, by omega, rfl⟩
           case round =>
             obtain ⟨q, hqg, rfl⟩:=hrel
             cases gk with
             | zero =>
              obtain rfl:q=2:=by omega
              have hnx:=run_next_end (P:=Tryz.prog) w2 ⟨#[13, 10]⟩ 2
              go_wp2_with fail
              go_roundg (s.size-(i+4))
              case measure=>omega
              case rel=>exact ⟨i+4, 4, by omega, by first | rfl | simp, rfl, HB3.out.alloc (HB3.out.size) _, HN2.out⟩
             | succ g2 =>
              have hi2:q=0∨q=1:=by omega
              rcases hi2 with rfl | rfl
              · have hnx:∀ ty, (Instr.next (.pointer (some ⟨w2.heap.size, 0, none⟩)) true ty).run Tryz.prog (w2.iter ⟨#[13, 10]⟩ 0) = .ok (.tuple #[.bool true, .int .i64 0, .int .i32 13]) (w2.iter ⟨#[13, 10]⟩ 1):=fun ty=>run_next_ascii (P:=Tryz.prog) w2 ⟨#[13, 10]⟩ 0 ty (by decide) (by decide)
                go_wp2_with fail
                go_roundg g2
                case measure=>omega
                case rel=>exact ⟨1, by omega, rfl⟩
              · have hnx:∀ ty, (Instr.next (.pointer (some ⟨w2.heap.size, 0, none⟩)) true ty).run Tryz.prog (w2.iter ⟨#[13, 10]⟩ 1) = .ok (.tuple #[.bool true, .int .i64 1, .int .i32 10]) (w2.iter ⟨#[13, 10]⟩ 2):=fun ty=>run_next_ascii (P:=Tryz.prog) w2 ⟨#[13, 10]⟩ 1 ty (by decide) (by decide)
                go_wp2_with fail
                go_roundg g2
                case measure=>omega
                case rel=>exact ⟨2, by omega, rfl⟩
theorem BD {g1 g2:Nat} {w:World} (t1 t2:List Int) (e1:(List.range 256).all (fun i=>decide (i<t1.length)&&decide (t1.getD i 0=(Lib.firstT i:Int)))=true) (e2:(List.range 16).all (fun i=>decide (2 * i+1<t2.length)&&(decide (t2.getD (2 * i) 0=(Lib.accLo i:Int))&&decide (t2.getD (2 * i+1) 0=(Lib.accHi i:Int))))=true)
   (c1:∀ i, i<t1.length→w.cell? ⟨g1, i, none⟩=some (.int .u8 (t1.getD i 0))) (c2:∀ i, i<t2.length→w.cell? ⟨g2, i, none⟩=some (.int .u8 (t2.getD i 0))):Lib.Utf8Tabs g1 g2 w:=by
 refine ⟨fun i hi => ?_, fun i hi => ?_⟩
 · have:=List.all_eq_true.1 e1 i (List.mem_range.2 hi)
   rw [Bool.and_eq_true, decide_eq_true_eq, decide_eq_true_eq] at this
   rw [c1 i this.1, this.2]
 · have:=List.all_eq_true.1 e2 i (List.mem_range.2 hi)
   rw [Bool.and_eq_true, Bool.and_eq_true, decide_eq_true_eq, decide_eq_true_eq, decide_eq_true_eq] at this
   exact ⟨by rw [c2 (2 * i) (by omega), this.2.1], by rw [c2 (2 * i+1) this.1, this.2.2]⟩
set_option maxHeartbeats 2000000 in
set_option maxRecDepth 1000000 in
theorem Tryz.idx_none (p:Option Addr) (c:Nat) (w:World):Calls Tryz.prog 224 #[.slice p 0 c, .string ⟨#[13, 10]⟩] w fun e w'=>e = .returned (.int .i64 (-1))∧w'=w:=by
 go_enter func224, Tryz.ntmps224
 go_wp2_with fail
 refine (Tryz.should_ascii _ _).mono ?_
 rintro e w1 ⟨rfl, hw⟩
 rw [hw]
 clear hw
 go_wp2_with fail
 go_loopg [11, 12] 0 (fun g s11 s12 wx=>s12 = .int .i64 0∧wx=w)
 case atStart=>exact ⟨rfl, rfl⟩
 case round =>
  obtain ⟨rfl, rfl⟩:=hrel
  go_wp2_with fail
  go_ret
  exact ⟨rfl, rfl⟩
theorem Tryz.idx_crlf (s:ByteArray) (b off c:Nat) (w:World) (m:Int) (hs:s.size<4294967281) (hnc:s.size≤c) (hb:b<w.heap.size) (hm:w.cell? ⟨0, 0, none⟩=some (.int .i64 m)) (hmb:0<w.heap.size) (hT:Lib.Utf8Tabs 2 3 w) (HG:2<w.heap.size∧3<w.heap.size) (hp:∀ j, j<s.size→w.cell? ⟨b, off+j, none⟩=some (.int .u8 (s.get! j).toNat)) :
   Calls Tryz.prog 224 #[.slice (some ⟨b, off, none⟩) s.size c, .string ⟨#[13, 10]⟩] w fun e w'=>e = .returned (.int .i64 (Lib.indexAny s.data.toList [13, 10]))∧Below w.heap.size w w':=by
 by_cases h1:s.size=1
 · exact Tryz.idx_one s b off c w h1 (hp 0 (by omega))
 by_cases h8:s.size≤8
 · exact Tryz.idx_short s b off c w m h8 h1 hnc hb hm hmb hT HG hp
 · refine (Tryz.idx_long s b off c w (by omega) hs hb hp).mono fun e w' ⟨he, hw⟩=>⟨he, ?_⟩
   rw [hw]
   exact ((Below.refl _ _).alloc (Nat.le_refl _) _).alloc (by show _≤(w.heap.push _).size; rw [Array.size_push]; omega) _
end Go.Proofs
