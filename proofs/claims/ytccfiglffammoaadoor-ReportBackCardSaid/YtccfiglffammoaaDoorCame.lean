/-
  What came in, by its type.
-/
import Derived.Test.YtccfiglffammoaaDoorProg
import Derived.Test.YtccfiglffammoaaDoorSh
import Derived.KernelRfl
set_option linter.unusedVariables false
set_option maxRecDepth 100000
namespace Go.Proofs.YtccfiglffammoaaDoor
open Go.Abs Go.Abs.Sh

theorem cz4 {H : Type} {enc : TypeId × Value → H} {W : World} {sp : Nat → Bool} {hd : Bool} : CameZ enc Tryd.prog W sp hd 4 (fun b : Bool => [IC.v (.bool b)]) (fun _ => True) := camez_bool Tryd.underlying4
theorem cz9 {H : Type} {enc : TypeId × Value → H} {W : World} {sp : Nat → Bool} {hd : Bool} : CameZ enc Tryd.prog W sp hd 9 (fun s : ByteArray => [IC.v (.string s)]) wzS := camez_string Tryd.underlying9
theorem cz23 {H : Type} {enc : TypeId × Value → H} {W : World} {sp : Nat → Bool} {hd : Bool} : CameZ enc Tryd.prog W sp hd 23 (fun x => List.map IC.v (T_Path.enc x)) T_Path.wz := by
  intro fuel cs y h hz
  obtain ⟨xs, m, _, hy, hlen, hxs, hg⟩ := DataW.trod_struct Tryd.underlying23 h
  have hz' : Heavy Tryd.prog 23 (DataW.agg (xs.map (·.1))) := by rw [hy] at hz; exact hz
  have hN : Tryd.prog.cellsOf 23 = 3 := by kernel_rfl
  rw [hN] at hlen
  obtain ⟨c0, c1, c2, rfl⟩ : ∃ c0 c1 c2, cs = [c0, c1, c2] := by
    match cs, hlen with
    | [c0, c1, c2], _ => exact ⟨_, _, _, rfl⟩
  obtain ⟨y0, e0, z0⟩ := camez_fld Tryd.underlying23 hg hxs hz' 0 (T := 4) (o := 0) (k := 1) (ds := [c0]) rfl (by kernel_rfl) rfl
  obtain ⟨x0, r0, o0, w0⟩ := cz4 _ _ _ e0 z0
  obtain ⟨y1, e1, z1⟩ := camez_fld Tryd.underlying23 hg hxs hz' 1 (T := 9) (o := 1) (k := 1) (ds := [c1]) rfl (by kernel_rfl) rfl
  obtain ⟨x1, r1, o1, w1⟩ := cz9 _ _ _ e1 z1
  obtain ⟨y2, e2, z2⟩ := camez_fld Tryd.underlying23 hg hxs hz' 2 (T := 9) (o := 2) (k := 1) (ds := [c2]) rfl (by kernel_rfl) rfl
  obtain ⟨x2, r2, o2, w2⟩ := cz9 _ _ _ e2 z2
  exact ⟨T_Path.mk x0 x1 x2, (RIs_append r0 (RIs_append r1 (RIs_append r2 RIs_nil))), (ones_app o0 (ones_app o1 (ones_app o2 ones_nil))), w0, w1, w2⟩
end Go.Proofs.YtccfiglffammoaaDoor
