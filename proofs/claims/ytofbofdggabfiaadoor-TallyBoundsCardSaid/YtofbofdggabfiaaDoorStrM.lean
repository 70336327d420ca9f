import Derived.Test.YtofbofdggabfiaaDoorLoopM
namespace Go.Abs.Sh
set_option linter.unusedVariables false
theorem byt_sbytes (s : ByteArray) : byt (sbytes s) := by
 intro x hx
 simp only [sbytes,List.mem_map] at hx
 obtain ⟨b,_,rfl⟩ := hx
 have := b.toNat_lt
 omega
theorem bstr_sbytes (s : ByteArray) : bstr (sbytes s) = s := by
 obtain ⟨⟨l⟩⟩ := s
 simp only [bstr,sbytes,List.map_map]
 congr 2
 conv => rhs; rw [← List.map_id l]
 apply List.map_congr_left
 intro b _
 simp
theorem sbytes_inj {s t : ByteArray} (h : sbytes s = sbytes t) : s = t := by rw [← bstr_sbytes s,h,bstr_sbytes]
theorem chr_of {s : ByteArray} {i : Nat} (h : i < s.size) : chrO s (i : Int) = some ((sbytes s)[i]'(by rw [sbytes_len]; exact h)) := by
 unfold chrO
 rw [if_pos (by omega)]
 have h' : i < s.data.toList.length := by simpa using h
 simp only [Int.toNat_natCast,sbytes,List.getElem?_eq_getElem h',Option.map_some,List.getElem_map]
theorem toList_beq (s t : ByteArray) : (s.toList == t.toList) = decide (s = t) := by
 rw [← beq_toListBytes,Bool.eq_iff_iff,decide_eq_true_eq]
 obtain ⟨a⟩ := s
 obtain ⟨b⟩ := t
 show (a == b) = true ↔ _
 rw [beq_iff_eq]
 exact ⟨fun h => by rw [h],fun h => by injection h⟩
theorem str_eq_iff {s t : ByteArray} : s = t ↔ sbytes s = sbytes t := ⟨fun h => h ▸ rfl,sbytes_inj⟩
end Go.Abs.Sh
