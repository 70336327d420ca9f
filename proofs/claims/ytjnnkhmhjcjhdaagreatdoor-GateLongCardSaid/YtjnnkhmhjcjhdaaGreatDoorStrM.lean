import Derived.Test.YtjnnkhmhjcjhdaaGreatDoorLoopM
namespace Go.Abs.Sh
set_option linter.unusedVariables false
theorem byt_sbytes (s:ByteArray):byt (sbytes s):=by
 intro x hx
 simp only [sbytes,List.mem_map] at hx
 obtain ⟨b,_,rfl⟩:=hx
 have:=b.toNat_lt
 omega
theorem bstr_sbytes (s:ByteArray):bstr (sbytes s)=s:=by
 obtain ⟨⟨l⟩⟩:=s
 simp only [bstr,sbytes,List.map_map]
 congr 2
 conv=>rhs; rw [← List.map_id l]
 apply List.map_congr_left
 intro b _
 simp
theorem sbytes_bstr {l:List Int} (h:byt l):sbytes (bstr l)=l:=by
 simp only [bstr,sbytes,List.map_map]
 conv=>rhs; rw [← List.map_id l]
 apply List.map_congr_left
 intro x hx
 have:=h x hx
 simp only [Function.comp,id_eq,UInt8.toNat_ofNat']
 omega
theorem sbytes_inj {s t:ByteArray} (h:sbytes s=sbytes t):s=t:=by rw [← bstr_sbytes s,h,bstr_sbytes]
theorem bstr_size (l:List Int):(bstr l).size=l.length:=by simp [bstr,ByteArray.size]
theorem byt_drop {l:List Int} (h:byt l) (n:Nat):byt (l.drop n):=fun x hx=>h x (List.mem_of_mem_drop hx)
theorem byt_take {l:List Int} (h:byt l) (n:Nat):byt (l.take n):=fun x hx=>h x (List.mem_of_mem_take hx)
theorem byt_app {l m:List Int} (h:byt l) (k:byt m):byt (l++m):=by
 intro x hx
 rcases List.mem_append.1 hx with h1 | h1
 ·exact h x h1
 ·exact k x h1
theorem chr_of {s:ByteArray} {i:Nat} (h:i<s.size):chrO s (i:Int)=some ((sbytes s)[i]'(by rw [sbytes_len]; exact h)):=by
 unfold chrO
 rw [if_pos (by omega)]
 have h':i<s.data.toList.length:=by simpa using h
 simp only [Int.toNat_natCast,sbytes,List.getElem?_eq_getElem h',Option.map_some,List.getElem_map]
theorem sub_of {s:ByteArray} {a b:Nat} (h1:a≤b) (h2:b≤s.size):subO s (a:Int) (b:Int)=some (bstr (((sbytes s).drop a).take (b-a))):=by
 unfold subO
 rw [if_pos (by omega)]
 simp only [Int.toNat_natCast]
 congr 1
 apply sbytes_inj
 rw [sbytes_bstr (byt_take (byt_drop (byt_sbytes s) a) _)]
 simp only [sbytes,ByteArray.data_extract,Array.toList_extract,List.extract_eq_take_drop,List.map_take,List.map_drop]
theorem toList_beq (s t:ByteArray):(s.toList==t.toList)=decide (s=t):=by
 rw [← beq_toListBytes,Bool.eq_iff_iff,decide_eq_true_eq]
 obtain ⟨a⟩:=s
 obtain ⟨b⟩:=t
 show (a==b)=true↔_
 rw [beq_iff_eq]
 exact ⟨fun h=>by rw [h],fun h=>by injection h⟩
theorem str_eq_iff {s t:ByteArray}:s=t↔sbytes s=sbytes t:=⟨fun h=>h ▸ rfl,sbytes_inj⟩
end Go.Abs.Sh
