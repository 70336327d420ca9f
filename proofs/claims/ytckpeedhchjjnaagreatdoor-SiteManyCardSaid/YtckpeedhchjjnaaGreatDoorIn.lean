import Derived.Test.YtckpeedhchjjnaaGreatDoorFrame
import Derived.Test.YtckpeedhchjjnaaGreatDoorAR
namespace Go.Proofs.YtckpeedhchjjnaaGreatDoor
open Go.ChangeShapes Go.WideShapes Go.ChangeAt Go.RowKit Go.Abs

theorem Lm {f:FuncId} {avs:List AV} {xs:List Value} {W:World} {b:Bool} (ok:bA Tryz.prog f avs (.v (.bool b))) (hr:Rs (Ie W) V0 W avs xs []) :
  Calls Tryz.prog f xs.toArray W (fun e W'=>e = .returned (.bool b)∧Below W.heap.size W W'):=by refine (ok _ _ W xs (fun b hb=>by rcases hb with hb | hb; exact hb.elim; exact hb) hr).mono ?_;rintro e W' ⟨x, rfl, hc, Imm', o, _, _, hR, _, _⟩;simp only [R] at hR;rw [hR.1];exact ⟨rfl, hc.os, hc.tape, hc.output, hc.size, fun k hk=>hc.block k hk (by simp)⟩
theorem Ha {f:FuncId} {gl:List (Nat×List Value)} {avs:List AV} {xs:List Value} {W:World} {b:Bool} (ok:fJ Tryz.prog gl f avs (.v (.bool b))) (hg:EZ gl (fun b=>b<W.heap.size) W) (hr:Rs (Ie W) V0 W avs xs []) :
  Calls Tryz.prog f xs.toArray W (fun e W'=>e = .returned (.bool b)∧Below W.heap.size W W'):=by refine (ok _ _ W xs (fun b hb=>by rcases hb with hb | hb; exact hb.elim; exact hb) (fun p hp=>⟨.inr (hg p hp).1, (hg p hp).2⟩) hr).mono ?_;rintro e W' ⟨x, rfl, hc, Imm', o, _, _, hR, _, _⟩;simp only [R] at hR;rw [hR.1];exact ⟨rfl, hc.os, hc.tape, hc.output, hc.size, fun k hk=>hc.block k hk (by simp)⟩
theorem FH {W:World}:EZ [] (fun b=>b<W.heap.size) W:=fun p hp=>by cases hp
theorem na {W:World} {b:Nat} {vs:List Value} {gl:List (Nat×List Value)} (h0:vs≠[]) (h:∀ j, W.cell? ⟨b, j, none⟩=vs[j]?) (hg:EZ gl (fun b=>b<W.heap.size) W):EZ ((b, vs)::gl) (fun b=>b<W.heap.size) W:=by
 intro p hp;rcases aW.1 hp with rfl | hp
 · refine ⟨?_, h⟩;have hpos:0<vs.length:=List.length_pos_iff.2 h0;exact World.block_lt_of_cell? W _ ((h 0).trans (List.getElem?_eq_getElem hpos))
 · exact hg p hp
theorem Bz {W:World} {b:Nat} {v:Value} (h:∀ j, W.cell? ⟨b, j, none⟩=([v]:List Value)[j]?):∀ j, W.cell? ⟨b, j, none⟩=([v]:List Value)[j]? := h
end Go.Proofs.YtckpeedhchjjnaaGreatDoor
