import Derived.Test.YtjnnkhmhjcjhdaaGreatDoorLoopM
namespace Go.Abs.Sh
set_option linter.unusedVariables false
theorem rW (s:ByteArray):iY (cr s)=s:=by
 obtain ⟨⟨l⟩⟩:=s
 simp only [iY,cr,List.map_map]
 congr 2
 conv=>rhs; rw [← List.map_id l]
 apply List.map_congr_left
 intro b _
 simp
theorem rM {l:List Int} (h:kC l):cr (iY l)=l:=by
 simp only [iY,cr,List.map_map]
 conv=>rhs; rw [← List.map_id l]
 apply List.map_congr_left
 intro x hx
 have:=h x hx
 simp only [Function.comp,id_eq,UInt8.toNat_ofNat']
 omega
theorem za {s t:ByteArray} (h:cr s=cr t):s=t:=by rw [← rW s,h,rW]
theorem wX {l:List Int} (h:kC l) (n:Nat):kC (l.drop n):=fun x hx=>h x (List.mem_of_mem_drop hx)
theorem CJ {l:List Int} (h:kC l) (n:Nat):kC (l.take n):=fun x hx=>h x (List.mem_of_mem_take hx)
theorem Ac {l m:List Int} (h:kC l) (k:kC m):kC (l++m):=by
 intro x hx
 rcases List.mem_append.1 hx with h1 | h1
 ·exact h x h1
 ·exact k x h1
theorem uM {l:List Int} (h:yC (qf .u8) l):kC l:=by
 intro x hx
 have:=h.2 x hx
 simp only [qf,Lit.wf,IntKind.min,IntKind.max,IntKind.signed,IntKind.bits] at this
 have h2:0≤x∧x≤255:=by simpa using this
 omega
theorem tD (s t:ByteArray):(s.toList==t.toList)=decide (s=t):=by
 rw [← beq_toListBytes,Bool.eq_iff_iff,decide_eq_true_eq]
 obtain ⟨a⟩:=s
 obtain ⟨b⟩:=t
 show (a==b)=true↔_
 rw [beq_iff_eq]
 exact ⟨fun h=>by rw [h],fun h=>by injection h⟩
theorem xO {s t:ByteArray}:s=t↔cr s=cr t:=⟨fun h=>h ▸ rfl,za⟩
end Go.Abs.Sh
