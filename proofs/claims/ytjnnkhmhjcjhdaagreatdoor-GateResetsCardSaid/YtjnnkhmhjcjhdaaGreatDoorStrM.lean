import Derived.Test.YtjnnkhmhjcjhdaaGreatDoorLoopM
namespace Go.Abs.Sh
set_option linter.unusedVariables false
theorem oo (s:ByteArray):BA (ed s):=by
 intro x hx
 simp only [ed,List.mem_map] at hx
 obtain ⟨b,_,rfl⟩:=hx
 have:=b.toNat_lt
 omega
theorem xK (s:ByteArray):lz (ed s)=s:=by
 obtain ⟨⟨l⟩⟩:=s
 simp only [lz,ed,List.map_map]
 congr 2
 conv=>rhs; rw [← List.map_id l]
 apply List.map_congr_left
 intro b _
 simp
theorem qH {l:List Int} (h:BA l):ed (lz l)=l:=by
 simp only [lz,ed,List.map_map]
 conv=>rhs; rw [← List.map_id l]
 apply List.map_congr_left
 intro x hx
 have:=h x hx
 simp only [Function.comp,id_eq,UInt8.toNat_ofNat']
 omega
theorem Gf {s t:ByteArray} (h:ed s=ed t):s=t:=by rw [← xK s,h,xK]
theorem Jl (l:List Int):(lz l).size=l.length:=by simp [lz,ByteArray.size]
theorem Qi {l:List Int} (h:BA l) (n:Nat):BA (l.drop n):=fun x hx=>h x (List.mem_of_mem_drop hx)
theorem QQ {l:List Int} (h:BA l) (n:Nat):BA (l.take n):=fun x hx=>h x (List.mem_of_mem_take hx)
theorem Fg {l m:List Int} (h:BA l) (k:BA m):BA (l++m):=by
 intro x hx
 rcases List.mem_append.1 hx with h1 | h1
 ·exact h x h1
 ·exact k x h1
theorem Uy {s:ByteArray} {i:Nat} (h:i<s.size):qy s (i:Int)=some ((ed s)[i]'(by rw [lp]; exact h)):=by
 unfold qy
 rw [if_pos (by omega)]
 have h':i<s.data.toList.length:=by simpa using h
 simp only [Int.toNat_natCast,ed,List.getElem?_eq_getElem h',Option.map_some,List.getElem_map]
theorem Nu {s t:ByteArray} (h:s.size+t.size≤9223372036854775807):pA s t=some (lz (ed s++ed t)):=by
 unfold pA
 rw [if_pos h]
 congr 1
 apply Gf
 rw [qH (Fg (oo s) (oo t))]
 simp [ed]
theorem GC (s t:ByteArray):(s.toList==t.toList)=decide (s=t):=by
 rw [← beq_toListBytes,Bool.eq_iff_iff,decide_eq_true_eq]
 obtain ⟨a⟩:=s
 obtain ⟨b⟩:=t
 show (a==b)=true↔_
 rw [beq_iff_eq]
 exact ⟨fun h=>by rw [h],fun h=>by injection h⟩
theorem MD {s t:ByteArray}:s=t↔ed s=ed t:=⟨fun h=>h ▸ rfl,Gf⟩
end Go.Abs.Sh
