import Derived.Test.YtglabbpbianmnaaGreatDoorBunC
import Derived.Lib.ItoaNum
import Derived.KernelRfl
namespace Go.Abs.Sh
set_option linter.unusedVariables false
set_option linter.unusedSimpArgs false
set_option maxRecDepth 10000
def dgA:Nat→Nat→List Int→List Int
 | 0,n,acc=>(48+(n:Int))::acc
 | k+1,n,acc=>if n≤9 then (48+(n:Int))::acc else dgA k (n / 10) ((48+((n % 10:Nat):Int))::acc)
def dig1 (c:Int):Prop:=48≤c∧c≤57
theorem dgA_ok:∀ (k n:Nat) (acc:List Int),n<10 ^ (k+1)→∃ t,dgA k n acc=t++acc∧(∀ x∈t,dig1 x)∧1≤t.length∧t.length≤k+1
 | 0,n,acc,hn=>⟨[48+(n:Int)],rfl,fun x hx=>by simp at hx; subst hx; simp at hn; exact ⟨by omega,by omega⟩,by simp,by simp⟩
 | k+1,n,acc,hn=>by
  unfold dgA
  by_cases h9:n≤9
  ·rw [if_pos h9]
   exact ⟨[48+(n:Int)],rfl,fun x hx=>by simp at hx; subst hx; exact ⟨by omega,by omega⟩,by simp,by simp⟩
  ·rw [if_neg h9]
   have hn2:n / 10<10 ^ (k+1):=by rw [Nat.pow_succ] at hn; omega
   obtain ⟨t,e,h1,h2,h3⟩:=dgA_ok k (n / 10) ((48+((n % 10:Nat):Int))::acc) hn2
   refine ⟨t++[48+((n % 10:Nat):Int)],by rw [e]; simp,fun x hx => ?_,by simp,by simp; omega⟩
   rcases List.mem_append.1 hx with hx | hx
   ·exact h1 x hx
   ·simp at hx; subst hx; exact ⟨by omega,by omega⟩
theorem dec_dgA:∀ (k n:Nat) (acc:List Int),n<10 ^ (k+1)→(Lib.decDigits n).map (fun b=>(b.toNat:Int))++acc=dgA k n acc
 | 0,n,acc,hn=>by
  have h:n<10:=by simpa using hn
  rw [Lib.decDigits_one h]
  show ((UInt8.ofNat (48+n)).toNat:Int)::acc=(48+(n:Int))::acc
  rw [UInt8.toNat_ofNat',Nat.mod_eq_of_lt (by omega)]
  simp
 | k+1,n,acc,hn=>by
  unfold dgA
  by_cases h9:n≤9
  ·rw [if_pos h9,Lib.decDigits_one (by omega)]
   show ((UInt8.ofNat (48+n)).toNat:Int)::acc=(48+(n:Int))::acc
   rw [UInt8.toNat_ofNat',Nat.mod_eq_of_lt (by omega)]
   simp
  ·rw [if_neg h9]
   have hn2:n / 10<10 ^ (k+1):=by rw [Nat.pow_succ] at hn; omega
   rw [← dec_dgA k (n / 10) _ hn2,Lib.decDigits,dif_neg (by omega)]
   simp only [List.map_append,List.map_cons,List.map_nil,List.append_assoc,List.cons_append,List.nil_append]
   rw [UInt8.toNat_ofNat',Nat.mod_eq_of_lt (by omega)]
   simp
def tenT:ByteArray:=⟨#[48,49,50,51,52,53,54,55,56,57]⟩
theorem tenT_all:(List.range 10).all (fun k=>decide (subO tenT ((k:Nat):Int) ((k+1:Nat):Int)=some (bstr [48+((k:Nat):Int)])))=true:=by kernel_rfl
theorem tenT_of {k:Nat} (h:k<10):subO tenT (k:Int) ((k+1:Nat):Int)=some (bstr [48+(k:Int)]):=by
 have:=List.all_eq_true.1 tenT_all k (List.mem_range.2 h)
 exact of_decide_eq_true this
theorem byt_dg {n:Nat} (h:n≤9):byt [48+(n:Int)]:=byt_cons (by omega) byt_nil
theorem itoa_eq (k n:Nat) (h:n<10 ^ (k+1)) (h2:n<9000000000000000000):strconv_Itoa (n:Int)=some (bstr (dgA k n [])):=by
 unfold strconv_Itoa
 rw [if_pos (by omega),← dec_dgA k n [] h]
 congr 1
 have:Lib.itoa (n:Int)=Lib.decDigits n:=by unfold Lib.itoa; rw [if_neg (by omega),Int.toNat_natCast]
 rw [this,List.append_nil]
 apply sbytes_inj
 rw [sbytes_bstr (fun x hx=>by
  obtain ⟨b,_,rfl⟩:=List.mem_map.1 hx
  have:=b.toNat_lt
  omega)]
 simp [sbytes]
end Go.Abs.Sh
