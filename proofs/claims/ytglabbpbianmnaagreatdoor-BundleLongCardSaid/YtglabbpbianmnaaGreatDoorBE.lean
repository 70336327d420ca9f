/-
 Rows of own structs that hold own rows: by their encodings; onto a row in a slot; lent whole for a call.
-/
import Derived.Test.YtglabbpbianmnaaGreatDoorBD
namespace Go.Abs
set_option linter.unusedVariables false
def shrA:AV→AV
 | .v x => .v x
 | .fl _ z xs => .fl .shr z xs
 | .fr _ _ z xs => .fr .shr true z xs
 | _ => .any
theorem shrA_R {g g':Gh} {w:World} {oN:List Nat} (hI:g'.Imm=g.Imm) (hM:∀ b,g.Im b∨b∈oN→g'.Im b) {av:AV} {x:Value} {o:List Nat} (ho:∀ b∈o,b∈oN) (h:R g V0 w av x o):R g' V0 w (shrA av) x []:=by
 cases av with
 | v y=>simp only [R,shrA] at *; exact ⟨h.1,trivial⟩
 | fl m z xs=>exact fl_shr (V':=V0) hI hM ho h
 | fr m s z xs=>exact fr_shr (V':=V0) hI hM ho h
 | _=>simp [R,shrA]
theorem shrAs_R {g:Gh} {w:World} {oN:List Nat}:∀ {cs:List AV} {xs:List Value} {o:List Nat},(∀ b∈o,b∈oN)→Rs (gh0 w g.Imm g.Im) V0 w cs xs o→Rs (gh0 w g.Imm (fun b=>g.Im b∨b∈oN)) V0 w (cs.map shrA) xs []
 | [],xs,o,_,h=>by simp only [Rs,List.map_nil] at *; exact ⟨h.1,trivial⟩
 | c::cs,xs,o,ho,h=>by
  simp only [Rs,List.map_cons] at *
  obtain ⟨x,xs',o1,o2,rfl,rfl,h1,h2⟩:=h
  exact ⟨x,xs',[],[],rfl,rfl,shrA_R (g:=gh0 w g.Imm g.Im) (g':=gh0 w g.Imm (fun b=>g.Im b∨b∈oN)) (oN:=oN) rfl (fun b hb=>hb) (fun b hb=>ho b (by simp [hb])) h1,shrAs_R (fun b hb=>ho b (by simp [hb])) h2⟩
section
variable {A:Type}
theorem oe_set {z:Nat} {enc:A→List AV} (he:∀ x,(enc x).length=z) {l:List A} {i q:Nat} {x y:A} {a:AV} (h:getO l i=some x) (hy:(enc x).set q a=enc y) (hq:q<z) :
  ((l.map enc).flatten).set (i * z+q) a=((l.set i y).map enc).flatten:=by
 have hfit:=gflat_fit he h (q:=q) (s:=1) (by omega)
 rw [← gflat_setc he h (q:=q) (s:=1) (vs:=[a]) (y:=y) (by
  rw [← hy,List.set_eq_take_append_cons_drop,if_pos (by rw [he x]; exact hq)]; rfl) (by omega)]
 rw [List.set_eq_take_append_cons_drop,if_pos (by omega)]
 rfl
theorem AIs_app {s:Bool}:∀ {as bs:List AV} {cs ds:List IC},AIs s as cs→AIs s bs ds→AIs s (as++bs) (cs++ds)
 | _,_,_,_,.nil,h=>h
 | _,_,_,_,.cons h hs,k => .cons h (AIs_app hs k)
theorem oe_ais {s:Bool} {enc:A→List AV} {ie:A→List IC} (h:∀ x,AIs s ((enc x).map shrA) (ie x)) (l:List A):AIs s (((l.map enc).flatten).map shrA) ((l.map ie).flatten):=by
 induction l with
 | nil=>exact .nil
 | cons x l ih =>
  rw [List.map_cons,List.flatten_cons,List.map_append,List.map_cons,List.flatten_cons]
  exact AIs_app (h x) ih
end
section
variable {P:Program} {ty:TypeId} {pos:String} {aft:Array Edge} {gd:Option (Nat×Bool)}
theorem ownJ_lend {g:Gh} {w:World} {T:TypeId} {z:Nat} {cs:List AV} {ics:List IC} {x:Value} {o oN:List Nat} (hs:∀ b∈o,b∈oN) (h:(ownJ T z cs).P g.Imm g.Im x o w) (hai:AIs true (cs.map shrA) ics) :
  R (gh0 w g.Imm (fun b=>g.Im b∨b∈oN)) V0 w (.fr .shr true z ics) x []:=by
 obtain ⟨vs,o1,o2,rfl,h1,h2⟩:=h
 have h3:=fl_shr (g:=gh0 w g.Imm g.Im) (g':=gh0 w g.Imm (fun b=>g.Im b∨b∈oN)) (V':=V0) (oN:=oN) rfl (fun b hb=>hb) (fun b hb=>hs b (by simp [hb])) h1
 exact fl_fr h3 (AIs_R hai (shrAs_R (fun b hb=>hs b (by simp [hb])) h2))
end
end Go.Abs
