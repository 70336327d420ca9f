import Derived.Test.YtjnnkhmhjcjhdaaGreatDoorLoopM
namespace Go.Abs.Sh
set_option linter.unusedVariables false
theorem dN (s:ByteArray):mU (br s):=by
 intro x hx
 simp only [br,List.mem_map] at hx
 obtain ⟨b,_,rfl⟩:=hx
 have:=b.toNat_lt
 omega
theorem ko (s:ByteArray):cH (br s)=s:=by
 obtain ⟨⟨l⟩⟩:=s
 simp only [cH,br,List.map_map]
 congr 2
 conv=>rhs; rw [← List.map_id l]
 apply List.map_congr_left
 intro b _
 simp
theorem cy {l:List Int} (h:mU l):br (cH l)=l:=by
 simp only [cH,br,List.map_map]
 conv=>rhs; rw [← List.map_id l]
 apply List.map_congr_left
 intro x hx
 have:=h x hx
 simp only [Function.comp,id_eq,UInt8.toNat_ofNat']
 omega
theorem oY {s t:ByteArray} (h:br s=br t):s=t:=by rw [← ko s,h,ko]
theorem dm (l:List Int):(cH l).size=l.length:=by simp [cH,ByteArray.size]
theorem pn {l:List Int} (h:mU l) (n:Nat):mU (l.drop n):=fun x hx=>h x (List.mem_of_mem_drop hx)
theorem qo {l:List Int} (h:mU l) (n:Nat):mU (l.take n):=fun x hx=>h x (List.mem_of_mem_take hx)
theorem kD {l m:List Int} (h:mU l) (k:mU m):mU (l++m):=by
 intro x hx
 rcases List.mem_append.1 hx with h1 | h1
 ·exact h x h1
 ·exact k x h1
theorem ET {s:ByteArray} {i:Nat} (h:i<s.size):fE s (i:Int)=some ((br s)[i]'(by rw [cv]; exact h)):=by
 unfold fE
 rw [if_pos (by omega)]
 have h':i<s.data.toList.length:=by simpa using h
 simp only [Int.toNat_natCast,br,List.getElem?_eq_getElem h',Option.map_some,List.getElem_map]
theorem kP {s:ByteArray} {a b:Nat} (h1:a≤b) (h2:b≤s.size):kq s (a:Int) (b:Int)=some (cH (((br s).drop a).take (b-a))):=by
 unfold kq
 rw [if_pos (by omega)]
 simp only [Int.toNat_natCast]
 congr 1
 apply oY
 rw [cy (qo (pn (dN s) a) _)]
 simp only [br,ByteArray.data_extract,Array.toList_extract,List.extract_eq_take_drop,List.map_take,List.map_drop]
theorem xH {s t:ByteArray} (h:s.size+t.size≤9223372036854775807):mo s t=some (cH (br s++br t)):=by
 unfold mo
 rw [if_pos h]
 congr 1
 apply oY
 rw [cy (kD (dN s) (dN t))]
 simp [br]
theorem gC (s t:ByteArray):(s.toList==t.toList)=decide (s=t):=by
 rw [← beq_toListBytes,Bool.eq_iff_iff,decide_eq_true_eq]
 obtain ⟨a⟩:=s
 obtain ⟨b⟩:=t
 show (a==b)=true↔_
 rw [beq_iff_eq]
 exact ⟨fun h=>by rw [h],fun h=>by injection h⟩
theorem pp {s t:ByteArray}:s=t↔br s=br t:=⟨fun h=>h ▸ rfl,oY⟩
end Go.Abs.Sh
